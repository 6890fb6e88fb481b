"""[55] to [58], [7], [60]: plain runs, move by move."""

import random

from assentwhole.crowdjoins import all_houses, crowd_both, crowd_less
from assentwhole.crowds import counts_of
from assentwhole.errors import BadLots, BadMove, BadPact, NotFor
from assentwhole.plainplays import play_plain
from assentwhole.plainruns import Plain
from assentwhole.splitting import splitters
from assentwhole.stairs import stair_holds
from tests.samples import DUO, LOTS, ONLY, PACT, ROW, SWORN, TWO, Checks, random_pact, same
from tests.slowruns import Moves, SlowPlain

LEFT, RIGHT, ALL, B = (((0, 2),), ()), (((1, 3),), ()), (((0, 3),), ((0, 1),)), ((), ((0, 1),))
DEED, NEXT = ("do", 0, 1, 0, 5), ("do", 1, 1, 0, 7)
TO_1, TO_0 = ("change", 1), ("change", 0)
ONE = (("answer", 1, LEFT), ("take", 1, LEFT, None), ("write", 1, DEED), ("store", 1, 1, LEFT))
VIEWS = ("moves", "pact", "desks", "rolls", "settled", "parted", "awake", "fallen", "looks")


def house(n, lot=0):
    return (((n, n + 1),), ()) if lot == 0 else B


def seen(run):
    return tuple(getattr(run, name)() for name in VIEWS)


class Runs(Checks):
    """Checks of single moves; make gives a run that has done moves."""

    views = VIEWS

    def bad(self, run, word, *moves):
        """Each move is refused with word; nothing changes."""
        ahead = tuple(getattr(run, name)() for name in self.views)
        for move in moves:
            self.refused(BadMove(len(run.moves()), word), run.do, move)
            self.equal(tuple(getattr(run, name)() for name in self.views), ahead)

    def good(self, run, *moves):
        for move in moves:
            self.assertIsNone(run.do(move))
            self.equal(run.moves()[-1], move)

    def split(self, dice, lots, run, move, at):
        """Do move, whose crowd stands at place at, as two moves if it can be; whether so."""
        if at is not None:
            pieces = [(lot, first, end) for lot, spans in enumerate(move[at]) for first, end in spans]
            lot, first, end = dice.choice(pieces)
            one = tuple(((first, dice.randint(first + 1, end)),) if here == lot else () for here in range(len(lots)))
            rest = crowd_less(lots, move[at], one)
            if any(rest):
                run.do(move[:at] + (one,) + move[at + 1:])
                run.do(move[:at] + (rest,) + move[at + 1:])
                return True
        run.do(move)
        return False


class PlainRunTests(Runs):
    def test_examples(self):
        run = Plain(PACT)
        run.do(("answer", 1, LEFT))
        self.bad(run, "answers", ("take", 1, RIGHT, None))
        self.good(run, ("take", 1, LEFT, None), ("write", 1, DEED), ("store", 1, 1, LEFT))
        self.equal(run.desks(), (((0, 2, 1, 1, (DEED,)), (2, 3, 0, 0, ())), ((0, 1, 0, 0, ()),)))
        self.equal((run.settled(), run.parted(), run.fallen()), (((1, 0), (1, 1)), None, ((), ())))
        self.good(run, ("open", 0), ("tell", 0, LEFT), ("openhead", 1), ("show", 0))
        self.equal(run.looks(), (("desk", (DEED,), True), ("head", None, None)))

    def test_a_new_run(self):
        run = Plain(DUO)
        self.equal(seen(run), ((), DUO, (((0, 3, 0, 0, ()),), ((0, 1, 0, 0, ()),)), (), (), None, ALL, ((), ()), ()))

    def test_which_pacts(self):
        self.refused(NotFor("manner"), Plain, SWORN)
        self.refused(BadPact(-1, "shape"), Plain, None)
        self.refused(BadLots(-1, "shape"), Plain, (None,) + SWORN[1:])
        self.refused(BadPact(-1, "changes"), Plain, SWORN[:4] + (None,))

    def test_shape(self):
        good = (
            ("answer", 1, LEFT), ("take", 1, LEFT, None), ("write", 1, DEED), ("store", 1, 0, LEFT), ("return", LEFT, 0),
            ("open", 0), ("tell", 0, LEFT), ("show", 0), ("openhead", 1), ("tellhead", 0, LEFT), ("showhead", 0, 0),
        )
        run = Plain(PACT)
        for move in good:
            self.bad(run, "shape", list(move), move[:-1], move + (0,), (move[0].upper(),) + move[1:], (move,))
            for at, part in enumerate(move):
                wrong = [[part], "x", -1, True, False, (part,)]
                if at > 0:
                    wrong.append(None)
                if move[0] == "take" and at == 3:
                    continue
                if isinstance(part, tuple):
                    wrong += [list(part), 0, 1, ()]
                if part == LEFT:
                    wrong += [((), ()), ([(0, 2)], ()), (((0, 2),),), (((False, 2),), ()), (((0, 4),), ()), (((0, 1), (1, 2)), ())]
                if part == DEED:
                    wrong += [("do", 0, True, 0, 5), TO_1, ("change", False), ("do", 0, 0, 0, 0), DEED[:4]]
                if at == 1 and move[0] in ("answer", "take", "write", "store", "openhead"):
                    wrong += [0]
                if move[0] == "open" and at == 1:
                    wrong += [1, 2]
                self.bad(run, "shape", *[move[:at] + (thing,) + move[at + 1:] for thing in wrong if not same(thing, part)])
        self.bad(run, "shape", None, True, 0, "answer", (), [], (None,), (1, 1), ("forge", 1, LEFT, 0, ()), ("lay", 1, LEFT, None, ()))
        self.bad(run, "shape", ("echo", 1, (), (), LEFT), ("lock", 1, (), (), LEFT), ("telllie", 0, LEFT, 0, ()), (["answer"], 1, LEFT))
        two_kinds = Plain((LOTS, "plain", "own", ((ROW, ROW),), ((),)))
        self.good(two_kinds, ("open", 1))
        self.bad(two_kinds, "shape", ("open", 2))

    def test_answer(self):
        run = play_plain(PACT, ONE)
        self.bad(run, "promise", ("answer", 1, LEFT), ("answer", 1, ALL), ("answer", 1, house(1)))
        self.good(run, ("answer", 1, house(2)), ("answer", 3, house(1)))
        self.equal(run.desks()[0], ((0, 1, 1, 1, (DEED,)), (1, 2, 3, 1, (DEED,)), (2, 3, 1, 0, ())))
        self.bad(run, "promise", ("answer", 3, ALL), ("answer", 2, RIGHT))
        self.good(run, ("answer", 4, ALL))

    def test_take_word_by_word(self):
        run = play_plain(PACT, ONE + (("answer", 3, RIGHT), ("answer", 2, house(0))))
        # Two conditions broken at once: the first one in sequence is told.
        self.bad(run, "taken", ("take", 1, LEFT, None), ("take", 1, ALL, (5, 5)), ("take", 1, house(2), "x"))
        self.bad(run, "answers", ("take", 2, LEFT, None), ("take", 2, ALL, 5), ("take", 4, house(0), None), ("take", 3, B, (1, 9)))
        for known in (
            5, True, False, "", (), (1,), (1, 1, 1), [1, 1], (1, 2), (2, 0), (3, 0), (0, 0), (4, 0), (True, 1), (1, True), (1, -1),
            (None, 0), (1, None), ((1, 1),), (1, (DEED,)), "11", (-1, 0), ("1", 1),
        ):
            self.bad(run, "known", ("take", 3, RIGHT, known), ("take", 3, house(2), known))
        self.bad(run, "ask", ("take", 3, house(2), None), ("take", 3, house(1), (1, 1)), ("take", 2, house(0), None))
        self.good(run, ("take", 3, RIGHT, (1, 0)))
        self.equal(run.rolls(), ((1, 0, (DEED,)), (3, 1, (DEED,))))

    def test_what_the_base_is(self):
        two = (("answer", 1, ALL), ("take", 1, ALL, None), ("write", 1, DEED), ("write", 1, NEXT), ("store", 1, 1, house(0)))
        for more, crowd, known, base in (
            ((), RIGHT, None, ()), ((), RIGHT, (1, 0), ()), ((), RIGHT, (1, 1), (DEED,)), ((), RIGHT, (1, 2), (DEED, NEXT)),
            ((), LEFT, None, (DEED,)), ((), LEFT, (1, 2), (DEED, NEXT)), ((), LEFT, (1, 0), (DEED,)),
            ((("store", 1, 2, house(1)),), LEFT, None, (DEED, NEXT)), ((("store", 1, 2, house(1)),), ALL, (1, 1), (DEED, NEXT)),
            ((("answer", 2, B), ("answer", 2, RIGHT), ("take", 2, RIGHT, None), ("store", 2, 0, B)), ALL, (1, 2), ()),
            ((("answer", 2, B), ("answer", 2, RIGHT), ("take", 2, RIGHT, (1, 1)), ("store", 2, 1, B)), ALL, (2, 1), (DEED,)),
        ):
            run = play_plain(PACT, two + more + (("answer", 5, crowd), ("take", 5, crowd, known)))
            self.equal(run.rolls()[-1], (5, len(base), base))

    def test_the_greatest_reign_is_best_though_its_roll_is_not_the_least(self):
        # Two rolls of one length: the lesser one is of the lesser reign.
        moves = ONE + (("return", house(1), 0), ("answer", 2, RIGHT), ("take", 2, RIGHT, None), ("write", 2, NEXT))
        moves += (("store", 2, 1, RIGHT), ("answer", 3, ALL), ("take", 3, ALL, None), ("open", 0), ("tell", 0, ALL), ("show", 0))
        run = play_plain(PACT, moves)
        self.equal(run.rolls()[2], (3, 1, (NEXT,)))
        self.equal(run.looks(), (("desk", (NEXT,), False),))
        # A longer roll of a lesser reign is no better either.
        moves = (("answer", 1, LEFT), ("take", 1, LEFT, None), ("write", 1, DEED), ("write", 1, DEED), ("store", 1, 2, LEFT))
        moves += (("return", house(1), 0), ("answer", 2, RIGHT), ("take", 2, RIGHT, None), ("write", 2, NEXT), ("store", 2, 1, RIGHT))
        run = play_plain(PACT, moves + (("answer", 3, ALL), ("take", 3, ALL, (1, 2))))
        self.equal(run.rolls()[2], (3, 1, (NEXT,)))

    def test_answers_are_those_of_their_time(self):
        # What is stored behind the answer does not count; a later answer counts instead of an earlier one.
        stale = ONE[:3] + (("answer", 2, RIGHT), ("return", RIGHT, 3), ("store", 1, 1, RIGHT))
        run = play_plain(PACT, stale + (("take", 2, RIGHT, None),))
        self.equal(run.rolls()[1], (2, 0, ()))
        run = play_plain(PACT, stale + (("answer", 2, house(2)), ("take", 2, RIGHT, None)))
        self.equal(run.rolls()[1], (2, 1, (DEED,)))
        run = play_plain(PACT, stale + (("return", RIGHT, 2), ("answer", 2, RIGHT), ("take", 2, RIGHT, None)))
        self.equal(run.rolls()[1], (2, 0, ()))
        # It stays when its house returns.
        run = play_plain(PACT, ONE + (("answer", 2, LEFT), ("return", LEFT, 0)))
        self.equal(run.desks()[0], ((0, 3, 0, 0, ()),))
        self.good(run, ("take", 2, LEFT, None))
        self.equal(run.rolls()[1], (2, 1, (DEED,)))

    def test_ask_is_of_the_charter_of_the_base(self):
        run = play_plain(DUO, ONE + (("write", 1, TO_1), ("store", 1, 2, house(0)), ("answer", 2, ALL)))
        self.bad(run, "ask", ("take", 2, LEFT, None), ("take", 2, LEFT, (1, 0)), ("take", 2, RIGHT, (1, 2)))
        self.good(run, ("take", 2, RIGHT, (1, 1)))
        run = play_plain(DUO, ONE + (("write", 1, TO_1), ("store", 1, 2, house(0)), ("answer", 2, ALL)))
        self.good(run, ("take", 2, ALL, None))
        self.equal(run.rolls()[1], (2, 2, (DEED, TO_1)))

    def test_write(self):
        run = play_plain(DUO, ONE[:2])
        self.bad(run, "roll", ("write", 2, DEED), ("write", 2, TO_0))
        self.bad(run, "change", ("write", 1, TO_0))
        self.bad(run, "rule", ("write", 1, TO_1))
        self.good(run, ("store", 1, 0, LEFT), ("write", 1, TO_1))
        self.bad(run, "change", ("write", 1, TO_1), ("write", 1, TO_0))
        self.good(run, ("write", 1, DEED))
        self.equal(run.rolls(), ((1, 0, (TO_1, DEED)),))

    def test_rules(self):
        ring = ((ROW,), (ROW,)), ((1,), (0,))
        own, calm, bold = [Plain((LOTS, "plain", rule) + ring) for rule in ("own", "calm", "bold")]
        for run in (own, calm, bold):
            self.good(run, ("answer", 1, ALL), ("take", 1, ALL, None), ("write", 1, DEED))
        self.bad(own, "rule", ("write", 1, TO_1))
        self.good(calm, ("write", 1, TO_1))
        self.good(bold, ("write", 1, TO_1), ("write", 1, TO_0), ("write", 1, TO_1))
        self.bad(calm, "change", ("write", 1, TO_1))
        self.bad(calm, "rule", ("write", 1, TO_0))
        # One deed too few is stored; then the change is in a settled roll.
        self.good(calm, ("write", 1, NEXT), ("store", 1, 1, ALL))
        self.bad(calm, "rule", ("write", 1, TO_0))
        self.good(calm, ("store", 1, 2, LEFT))
        self.good(calm, ("write", 1, TO_0))
        self.bad(calm, "rule", ("write", 1, TO_1))
        self.good(own, ("store", 1, 0, ALL))
        self.bad(own, "rule", ("write", 1, TO_1))
        self.good(own, ("store", 1, 1, LEFT), ("write", 1, TO_1))
        self.bad(own, "rule", ("write", 1, TO_0))

    def test_calm_asks_any_reign_up_to_this_one(self):
        pact = (LOTS, "plain", "calm", ((ROW,), (ROW,)), ((1,), (0,)))
        led = (("answer", 2, ALL), ("take", 2, ALL, None), ("write", 2, DEED), ("write", 2, TO_1))
        run = play_plain(pact, led + (("answer", 4, ALL), ("take", 4, ALL, (2, 2))))
        self.bad(run, "rule", ("write", 2, TO_0), ("write", 4, TO_0))
        self.good(run, ("store", 4, 2, LEFT), ("answer", 6, RIGHT), ("take", 6, RIGHT, None))
        self.bad(run, "rule", ("write", 2, TO_0))
        self.good(run, ("write", 4, TO_0), ("write", 6, TO_0))
        # A settled roll with another deed ahead of the change does not count.
        other = play_plain(pact, led + (("answer", 3, ALL), ("take", 3, ALL, None), ("write", 3, NEXT), ("write", 3, TO_1)))
        self.good(other, ("store", 3, 2, ALL), ("answer", 4, ALL), ("take", 4, ALL, None))
        self.bad(other, "rule", ("write", 2, TO_0))
        self.good(other, ("write", 4, TO_0))

    def test_own_asks_this_very_reign(self):
        pact = (LOTS, "plain", "own", ((ROW,), (ROW,)), ((1,), (0,)))
        run = play_plain(pact, ONE + (("answer", 2, LEFT), ("take", 2, LEFT, None)))
        self.bad(run, "rule", ("write", 2, TO_1))
        self.good(run, ("write", 1, TO_1), ("store", 2, 1, LEFT), ("write", 2, TO_1))

    def test_store_word_by_word(self):
        run = play_plain(PACT, ONE + (("answer", 2, RIGHT), ("take", 2, RIGHT, None), ("write", 2, NEXT)))
        self.bad(run, "roll", ("store", 3, 0, LEFT), ("store", 3, 99, ALL))
        self.bad(run, "length", ("store", 1, 2, ALL), ("store", 2, 0, ALL), ("store", 2, 3, LEFT), ("store", 1, 10 ** 6, RIGHT))
        self.bad(run, "promise", ("store", 1, 1, ALL), ("store", 1, 0, RIGHT), ("store", 1, 1, LEFT))
        self.bad(run, "stored", ("store", 1, 1, house(0)), ("store", 1, 0, house(0)), ("store", 1, 1, (((0, 1),), ((0, 1),))))
        self.good(run, ("store", 1, 0, B), ("store", 1, 1, B))
        self.bad(run, "stored", ("store", 1, 0, B), ("store", 1, 1, B))
        self.good(run, ("store", 2, 1, ALL), ("store", 2, 2, RIGHT))
        self.equal(run.desks(), (((0, 1, 2, 2, (DEED,)), (1, 3, 2, 2, (DEED, NEXT))), ((0, 1, 2, 2, (DEED,)),)))

    def test_what_was_ever_stored_counts(self):
        run = play_plain(PACT, ONE[:3] + (("store", 1, 1, house(0)), ("return", house(0), 0), ("store", 1, 1, house(1))))
        self.equal(run.desks()[0], ((0, 1, 0, 0, ()), (1, 2, 1, 1, (DEED,)), (2, 3, 0, 0, ())))
        self.equal(run.settled(), ((1, 0), (1, 1)))
        run = play_plain(PACT, ONE[:3] + (("store", 1, 0, house(0)), ("store", 1, 1, house(1))))
        self.equal(run.settled(), ((1, 0),))
        run = play_plain(PACT, ONE[:3] + (("store", 1, 1, house(0)), ("return", house(0), 0), ("store", 1, 0, LEFT)))
        self.equal(run.settled(), ((1, 0),))

    def test_settled_from_the_base_on_and_by_the_charter_of_each_length(self):
        run = play_plain(DUO, ONE + (("write", 1, TO_1), ("store", 1, 2, LEFT), ("answer", 2, ALL), ("take", 2, ALL, None)))
        self.equal(run.settled(), ((1, 0), (1, 1)))
        self.good(run, ("store", 2, 2, LEFT))
        self.equal(run.settled(), ((1, 0), (1, 1)))
        self.good(run, ("store", 2, 2, B))
        self.equal(run.settled(), ((1, 0), (1, 1), (2, 2)))

    def test_return(self):
        run = play_plain(PACT, ONE)
        self.bad(run, "at", ("return", LEFT, 5), ("return", ALL, 10 ** 6))
        for at, desk in enumerate(((0, 0, ()), (1, 0, ()), (1, 0, ()), (1, 0, ()), (1, 1, (DEED,)))):
            run = play_plain(PACT, ONE + (("return", house(0), at),))
            self.equal(run.desks()[0][0], (0, 2 if at == 4 else 1) + desk)
            self.equal(run.fallen(), house(0))
            self.equal(run.settled(), ((1, 0), (1, 1)))
        # The number of moves done grows by the return itself.
        run = play_plain(PACT, ONE + (("return", LEFT, 1), ("return", ALL, 5), ("return", RIGHT, 4)))
        self.equal(run.desks()[0], ((0, 1, 1, 0, ()), (1, 2, 1, 1, (DEED,)), (2, 3, 0, 0, ())))
        self.equal(run.fallen(), ALL)

    def test_a_return_to_a_return(self):
        run = play_plain(PACT, ONE + (("return", LEFT, 0), ("answer", 2, ALL), ("return", ALL, 5), ("return", house(1), 4)))
        self.equal(run.desks()[0], ((0, 1, 0, 0, ()), (1, 2, 1, 1, (DEED,)), (2, 3, 0, 0, ())))

    def test_parted(self):
        back, again = ("return", house(1), 0), (("answer", 2, RIGHT), ("take", 2, RIGHT, None), ("write", 2, NEXT))
        run = play_plain(PACT, ONE + (back,) + again)
        self.equal(run.parted(), None)
        self.good(run, ("store", 2, 0, RIGHT))
        self.equal((run.settled(), run.parted()), (((1, 0), (1, 1), (2, 0)), None))
        self.good(run, ("store", 2, 1, RIGHT))
        self.equal((run.parted(), run.fallen()), (((1, 1), (2, 1)), house(1)))
        # The same deed again does not part.
        same_deed = (again[0], again[1], ("write", 2, DEED), ("store", 2, 1, RIGHT))
        self.equal(play_plain(PACT, ONE + (back,) + same_deed).parted(), None)

    def test_parted_is_the_least_second_and_then_the_least_first(self):
        def reign(r, *deeds):
            return (("return", ALL, 0), ("answer", r, ALL), ("take", r, ALL, None)) + tuple(("write", r, d) for d in deeds) + (
                ("store", r, len(deeds), ALL),
            )

        a, b = DEED, NEXT
        self.equal(play_plain(PACT, reign(1, a, a) + reign(2, a, b) + reign(3, b)).parted(), ((1, 2), (2, 2)))
        self.equal(play_plain(PACT, reign(1, a, a) + reign(2, a) + reign(3, b, a)).parted(), ((1, 1), (3, 1)))
        self.equal(play_plain(PACT, reign(1, a) + reign(2, a, a) + reign(3, a, b)).parted(), ((2, 2), (3, 2)))
        self.equal(play_plain(PACT, reign(5, a, a) + reign(2, a, b) + reign(3, a, b, b)).parted(), ((2, 2), (5, 2)))
        self.equal(play_plain(PACT, reign(4, a, a) + reign(2, a) + reign(3)).parted(), None)

    def test_desk_looks(self):
        run = play_plain(PACT, ONE + (("open", 0), ("open", 0), ("openhead", 1)))
        self.bad(run, "look", ("tell", 3, LEFT), ("tell", 2, LEFT), ("show", 3), ("show", 2), ("tellhead", 0, LEFT), ("showhead", 1, 1))
        self.bad(run, "tellers", ("show", 0))
        self.good(run, ("tell", 0, house(2)))
        self.bad(run, "tellers", ("show", 0))
        self.good(run, ("tell", 0, B), ("tell", 0, house(2)))
        self.bad(run, "tellers", ("show", 0))
        self.good(run, ("tell", 0, house(0)), ("show", 0))
        self.bad(run, "look", ("show", 0), ("tell", 0, LEFT))
        self.equal(run.looks(), (("desk", (DEED,), True), ("desk", None, None), ("head", None, None)))

    def test_a_look_that_is_not_settled(self):
        run = play_plain(PACT, ONE[:3] + (("store", 1, 1, house(0)), ("open", 0), ("tell", 0, LEFT)))
        self.bad(run, "settled", ("show", 0))
        self.good(run, ("store", 1, 1, RIGHT), ("show", 0))
        self.equal(run.looks(), (("desk", (DEED,), True),))
        # Told by others: too few tellers for the charter of what is best.
        run = play_plain(DUO, ONE + (("write", 1, TO_1), ("store", 1, 2, house(0)), ("open", 0), ("tell", 0, LEFT)))
        self.bad(run, "tellers", ("show", 0))
        self.good(run, ("tell", 0, B))
        self.bad(run, "settled", ("show", 0))

    def test_looks_that_are_shown_wrong(self):
        run = play_plain(PACT, ONE + (("open", 0), ("return", house(1), 0), ("tell", 0, RIGHT), ("open", 0), ("tell", 1, LEFT)))
        self.good(run, ("show", 0), ("show", 1))
        self.equal(run.looks(), (("desk", (), False), ("desk", (DEED,), True)))
        # Nothing was settled yet when this one was opened.
        run = play_plain(PACT, (("open", 0),) + ONE + (("return", house(1), 0), ("tell", 0, RIGHT), ("show", 0)))
        self.equal(run.looks(), (("desk", (), True),))

    def test_what_was_told_stays(self):
        run = play_plain(PACT, ONE + (("open", 0), ("tell", 0, LEFT), ("return", LEFT, 0), ("tell", 0, LEFT), ("show", 0)))
        self.equal(run.looks(), (("desk", (DEED,), True),))

    def test_the_best_of_what_was_told(self):
        moves = (("answer", 1, LEFT), ("take", 1, LEFT, None), ("write", 1, DEED), ("write", 1, NEXT), ("store", 1, 2, LEFT))
        later = (("answer", 2, RIGHT), ("take", 2, RIGHT, None), ("store", 2, 2, RIGHT), ("open", 0), ("tell", 0, ALL), ("show", 0))
        self.equal(play_plain(PACT, moves + later).looks(), (("desk", (DEED, NEXT), True),))
        back = (("return", ALL, 0), ("answer", 2, ALL), ("take", 2, ALL, None), ("store", 2, 0, ALL), ("open", 0))
        run = play_plain(PACT, moves + back + (("return", house(0), 5), ("tell", 0, ALL), ("show", 0)))
        self.equal(run.looks(), (("desk", (), False),))

    def test_head_looks(self):
        run = play_plain(PACT, ONE)
        self.bad(run, "roll", ("openhead", 2))
        self.good(run, ("openhead", 1), ("open", 0), ("write", 1, NEXT))
        self.bad(run, "look", ("tellhead", 1, LEFT), ("tellhead", 2, LEFT), ("showhead", 1, 1), ("showhead", 2, 1), ("tell", 0, LEFT), ("show", 0))
        self.good(run, ("answer", 2, house(2)))
        self.bad(run, "promise", ("tellhead", 0, RIGHT), ("tellhead", 0, ALL))
        self.good(run, ("tellhead", 0, house(0)))
        self.bad(run, "length", ("showhead", 0, 0), ("showhead", 0, 3))
        self.bad(run, "settled", ("showhead", 0, 2))
        self.bad(run, "tellers", ("showhead", 0, 1))
        self.good(run, ("tellhead", 0, house(1)), ("showhead", 0, 1))
        self.bad(run, "look", ("showhead", 0, 1), ("tellhead", 0, LEFT))
        self.equal(run.looks(), (("head", (DEED,), True), ("desk", None, None)))

    def test_the_noted_length(self):
        run = play_plain(PACT, ONE[:3] + (("openhead", 1), ("write", 1, NEXT), ("openhead", 1), ("tellhead", 0, LEFT), ("tellhead", 1, LEFT)))
        self.bad(run, "length", ("showhead", 1, 1), ("showhead", 0, 0), ("showhead", 0, 3))
        self.bad(run, "settled", ("showhead", 0, 1), ("showhead", 0, 2))
        self.good(run, ("store", 1, 2, LEFT), ("showhead", 0, 2), ("showhead", 1, 2))

    def test_hold_is_of_the_charter_of_what_is_shown(self):
        row = (TWO, None, TWO, TWO, ONLY)
        pact = (LOTS, "plain", "own", ((row,), (ROW,)), ((1,), ()))
        run = play_plain(pact, ONE + (("openhead", 1), ("write", 1, TO_1), ("store", 1, 2, LEFT), ("tellhead", 0, LEFT)))
        self.bad(run, "tellers", ("showhead", 0, 1))
        self.good(run, ("showhead", 0, 2))

    def test_a_head_look_that_is_wrong(self):
        run = play_plain(PACT, ONE[:2] + (("store", 1, 0, ALL), ("openhead", 1), ("tellhead", 0, LEFT), ("showhead", 0, 0)))
        self.equal(run.looks(), (("head", (), True),))
        later = (("answer", 2, RIGHT), ("take", 2, RIGHT, None), ("write", 2, DEED), ("store", 2, 1, RIGHT))
        back = (("openhead", 1), ("return", house(1), 3), ("tellhead", 0, LEFT), ("showhead", 0, 0))
        run = play_plain(PACT, ONE[:2] + (("store", 1, 0, ALL),) + later + back)
        self.equal(run.looks(), (("head", (), False),))

    def test_rolls_of_each_length_and_of_several_reigns(self):
        moves = (("answer", 3, ALL), ("take", 3, ALL, None)) + tuple(("write", 3, DEED) for _ in range(60))
        for many in range(61):
            run = play_plain(PACT, moves + (("store", 3, many, LEFT),))
            self.equal(run.settled(), tuple((3, m) for m in range(many + 1)))
            self.equal(run.desks()[0][0], (0, 2, 3, 3, (DEED,) * many))
        for many in (0, 1, 30, 59):
            run = play_plain(PACT, moves + (("store", 3, many, ALL), ("store", 3, many + 1, ALL)))
            self.bad(run, "stored", ("store", 3, many, B))

    def test_kinds(self):
        other = (ONLY, None, ONLY, ONLY, ONLY)
        pact = (LOTS, "plain", "own", ((ROW, other),), ((),))
        run = play_plain(pact, (("answer", 1, B), ("take", 1, B, None), ("store", 1, 0, B), ("answer", 2, ALL), ("open", 1), ("open", 0)))
        self.equal(run.settled(), ((1, 0),))
        self.bad(run, "ask", ("take", 2, B, None))
        self.good(run, ("take", 2, LEFT, None), ("tell", 0, B), ("tell", 1, B), ("show", 0), ("tell", 1, LEFT), ("show", 1))

    def test_huge_lots(self):
        lots = (("a", 10 ** 12), ("b", 10 ** 12))
        most = ("any", 2, (("lot", 0, 10 ** 12 // 2 + 1), ("lot", 1, 1)))
        pact = (lots, "plain", "own", (((most, None, most, most, most),),), ((),))
        one, two = (((0, 6 * 10 ** 11),), ((5, 6),)), (((4 * 10 ** 11, 10 ** 12),), ((5, 7),))
        both = crowd_both(lots, one, two)
        run = play_plain(pact, (("answer", 1, one), ("take", 1, one, None), ("write", 1, DEED), ("store", 1, 1, one), ("return", both, 0)))
        self.good(run, ("answer", 2, two), ("take", 2, two, None), ("write", 2, NEXT), ("store", 2, 1, two))
        self.equal((run.parted(), run.fallen()), (((1, 1), (2, 1)), both))
        self.equal(run.desks()[1], ((0, 5, 0, 0, ()), (5, 7, 2, 2, (NEXT,)), (7, 10 ** 12, 0, 0, ())))
        self.equal(run.awake(), all_houses(lots))

    def test_neighbours_have_unlike_desks(self):
        run = play_plain(PACT, (("answer", 1, house(0)), ("answer", 1, house(2)), ("answer", 1, house(1))))
        self.equal(run.desks()[0], ((0, 3, 1, 0, ()),))

    def test_what_is_passed_in_and_returned_is_not_kept(self):
        run = play_plain(PACT, ONE)
        self.equal(run.moves(), ONE)
        self.equal(run.pact(), PACT)
        ahead = seen(run)
        other = Plain(PACT)
        self.good(other, *ONE)
        self.good(other, ("open", 0), ("answer", 9, ALL))
        self.equal(seen(run), ahead)

    def test_in_two_moves(self):
        # A crowd's answer, store, return or tell is also done in two, and tells the same.
        dice = random.Random(60)
        split = 0
        for at in range(40):
            lots = ((("a", 3), ("b", 1)), (("a", 4),), (("a", 2), ("b", 2)))[at % 3]
            pact = random_pact(dice, lots, "plain", ("own", "calm", "bold")[at % 3], 2, 2, 2)
            make, slow, whole, parts, places = Moves(dice, pact), SlowPlain(pact), Plain(pact), Plain(pact), [0]
            for _ in range(120):
                move = make.plain(slow)
                if slow.do(move) is not None:
                    continue
                whole.do(move)
                if move[0] == "return":
                    move = (move[0], move[1], places[move[2]])
                done = self.do_in_two(dice, lots, parts, move)
                split += done
                places.append(places[-1] + 1 + done)
                for name in ("desks", "rolls", "settled", "parted", "fallen", "looks"):
                    self.equal(getattr(parts, name)(), getattr(whole, name)())
        self.assertGreater(split, 200)

    def do_in_two(self, dice, lots, run, move):
        """Do move, as two moves where it has a crowd of several houses; whether so."""
        at = {"answer": 2, "store": 3, "return": 1, "tell": 2}.get(move[0])
        return self.split(dice, lots, run, move, at)

    def test_consequences(self):
        # [60], in courses at random: what desks have, and that nothing parts by fallen that do not split.
        dice = random.Random(160)
        parted = 0
        for at in range(60):
            pact = random_pact(dice, LOTS, "plain", ("own", "calm", "bold")[at % 3], dice.randint(1, 3), dice.randint(1, 2), 2)
            make, slow, run = Moves(dice, pact), SlowPlain(pact), Plain(pact)
            settled = ()
            for _ in range(150):
                move = make.plain(slow)
                if slow.do(move) is None:
                    run.do(move)
                    self.assertLessEqual(set(settled), set(run.settled()))
                    settled = run.settled()
            rolls = {reign: roll for reign, _, roll in run.rolls()}
            for rows in run.desks():
                for _, _, promise, reign, roll in rows:
                    self.assertLessEqual(reign, promise)
                    self.equal(roll, rolls.get(reign, ())[:len(roll)])
            splits = stair_holds(LOTS, splitters(pact), counts_of(LOTS, run.fallen()))
            parted += run.parted() is not None
            if run.parted() is not None:
                self.equal(splits, True)
            again = play_plain(pact, run.moves())
            self.equal(seen(again), seen(run))
        self.assertGreater(parted, 1)
