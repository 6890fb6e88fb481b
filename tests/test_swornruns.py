"""[61] to [64], [8], [66]: sworn runs, move by move."""

import random

from assentwhole.crowds import counts_of
from assentwhole.errors import BadCrowd, BadPact, NotFor
from assentwhole.splitting import splitters
from assentwhole.stairs import stair_holds
from assentwhole.swornplays import play_sworn
from assentwhole.swornruns import Sworn
from tests.samples import FOUR, PACT, RULES, SWORN, THREE, random_pact, same
from tests.slowruns import Moves, SlowSworn, crowd_of_houses
from tests.test_plainruns import Runs

NEAR, FAR, EVERY = (((0, 3),),), (((1, 4),),), (((0, 4),),)
LAST, NOBODY = (((3, 4),),), ((),)
DEED, NEXT, THIRD = ("do", 0, 1, 0, 5), ("do", 1, 1, 0, 7), ("do", 2, 1, 0, 9)
TO_1, TO_0 = ("change", 1), ("change", 0)
ROW = SWORN[3][0][0]
RING = (FOUR, "sworn", "own", ((ROW,), (ROW,)), ((1,), (0,)))
VIEWS = ("moves", "pact", "liars", "desks", "laid", "locked", "settled", "parted", "awake", "fallen", "looks")
START = (0, 0, (), 0, (), ())


def part(first, end):
    return (((first, end),),)


def begun(crowd=EVERY, r=1, base=()):
    return (("answer", r, crowd), ("lay", r, crowd, None, base))


def agreed(roll, crowd=EVERY, r=1, base=()):
    return (("echo", r, base, roll, crowd), ("lock", r, base, roll, crowd))


def seen(run):
    return tuple(getattr(run, name)() for name in VIEWS)


class SwornRunTests(Runs):
    views = VIEWS

    def test_examples(self):
        vow = Sworn(SWORN, LAST)
        self.good(vow, ("answer", 1, NEAR), ("lay", 1, NEAR, None, ()))
        self.bad(vow, "lock", ("lock", 1, (), (DEED,), NEAR))
        self.good(vow, ("echo", 1, (), (DEED,), NEAR), ("lock", 1, (), (DEED,), FAR))
        self.equal(vow.desks()[0][1:], ((1, 3, 1, 1, (DEED,), 1, (), (DEED,)), (3, 4, 0, 0, (), 0, (), ())))
        self.equal((vow.laid(), vow.locked()), (((1, ()),), ((1, (), (DEED,)),)))
        self.equal((vow.settled(), vow.fallen()), (((1, ()), (1, (DEED,))), LAST))
        self.good(vow, ("open", 0), ("tell", 0, part(0, 2)), ("telllie", 0, LAST, 0, ()), ("show", 0))
        self.equal(vow.looks(), (("desk", (DEED,), True),))

    def test_a_new_run(self):
        for liars in (NOBODY, LAST, EVERY, (((0, 1), (2, 3)),)):
            wanted = ((), SWORN, liars, (((0, 4) + START,),), (), (), (), None, EVERY, liars, ())
            self.equal(seen(Sworn(SWORN, liars)), wanted)

    def test_which_pacts_and_liars(self):
        self.refused(BadPact(-1, "shape"), Sworn, None, None)
        for thing, at in ((None, -1), ([()], -1), ((((0, 5),),), 0), (([],), 0), (((), ()), -1), ((((0, True),),), 0)):
            self.refused(BadCrowd(at), Sworn, SWORN, thing)
        self.refused(BadCrowd(-1), Sworn, PACT, NOBODY)
        self.refused(NotFor("manner"), Sworn, PACT, ((), ()))

    def test_shape(self):
        good = (
            ("answer", 1, NEAR), ("forge", 1, LAST, 0, ()), ("lay", 1, NEAR, None, ()), ("echo", 1, (), (), NEAR),
            ("lock", 1, (), (), NEAR), ("return", NEAR, 0), ("open", 0), ("tell", 0, NEAR), ("telllie", 0, LAST, 0, ()), ("show", 0),
        )
        run = Sworn(SWORN, LAST)
        for move in good:
            self.bad(run, "shape", list(move), move[:-1], move + (0,), (move[0].upper(),) + move[1:], (move,))
            for at, thing in enumerate(move):
                if move[0] == "lay" and at == 3:
                    continue
                wrong = [[thing], "x", -1, True, False, None, (thing,)]
                if thing in (NEAR, LAST):
                    wrong += [NOBODY, ([(0, 2)],), ((0, 2),), (((False, 2),),), part(0, 5), (((0, 1), (1, 2)),), ()]
                if thing == ():
                    wrong += [[], (None,), (("do", 0, True, 0, 5),), (TO_1,), (("change", False),), 0, (list(DEED),)]
                if at == 1 and move[0] in ("answer", "forge", "lay", "echo", "lock"):
                    wrong += [0]
                if move[0] == "open" and at == 1:
                    wrong += [1]
                self.bad(run, "shape", *[move[:at] + (one,) + move[at + 1:] for one in wrong if not same(one, thing)])
        self.bad(run, "shape", None, True, 0, "answer", (), [], (None,), ("take", 1, NEAR, None), ("write", 1, DEED))
        self.bad(run, "shape", ("store", 1, 0, NEAR), ("openhead", 1), ("tellhead", 0, NEAR), ("showhead", 0, 0), (["answer"], 1, NEAR))

    def test_answer(self):
        run = Sworn(SWORN, LAST)
        self.bad(run, "liar", ("answer", 1, LAST), ("answer", 1, EVERY))
        self.good(run, ("answer", 2, NEAR))
        self.bad(run, "promise", ("answer", 2, part(0, 1)), ("answer", 1, NEAR))
        self.bad(run, "liar", ("answer", 1, EVERY))
        self.equal(run.desks()[0], ((0, 3, 2, 0, (), 0, (), ()), (3, 4) + START))
        self.good(run, ("answer", 3, part(1, 2)))

    def test_forge(self):
        run = play_sworn(SWORN, LAST, begun(NEAR) + agreed((DEED,), NEAR))
        self.bad(run, "honest", ("forge", 2, EVERY, 0, ()), ("forge", 2, NEAR, 5, ()))
        self.bad(
            run, "lock", ("forge", 2, LAST, 0, (DEED,)), ("forge", 2, LAST, 1, (NEXT,)), ("forge", 2, LAST, 2, (DEED,)),
            ("forge", 1, LAST, 1, (DEED,)), ("forge", 2, LAST, 1, (DEED, DEED)), ("forge", 1, LAST, 1, ()),
        )
        ahead = run.desks()
        self.good(run, ("forge", 1, LAST, 0, ()), ("forge", 2, LAST, 1, (DEED,)), ("forge", 2, LAST, 1, ()), ("forge", 2, LAST, 0, ()))
        self.equal(run.desks(), ahead)

    def test_forged_answers_count(self):
        run = play_sworn(SWORN, LAST, begun(NEAR) + agreed((DEED,), NEAR) + (("answer", 2, part(1, 3)),))
        self.bad(run, "answers", ("lay", 2, FAR, None, (DEED,)))
        self.good(run, ("forge", 2, LAST, 0, ()))
        self.bad(run, "base", ("lay", 2, FAR, None, ()))
        self.good(run, ("lay", 2, FAR, None, (DEED,)))
        run = play_sworn(SWORN, part(2, 4), (("answer", 1, part(0, 2)), ("forge", 1, part(2, 4), 0, ()), ("lay", 1, EVERY, None, ())))
        self.good(run, ("echo", 1, (), (DEED,), EVERY), ("answer", 2, part(1, 2)), ("forge", 2, part(2, 4), 1, (DEED,)))
        self.bad(run, "base", ("lay", 2, FAR, None, ()))
        self.good(run, ("lay", 2, FAR, None, (DEED,)), ("forge", 2, part(2, 4), 0, ()))
        self.bad(run, "base", ("lay", 2, FAR, None, (DEED,)))
        self.good(run, ("lay", 2, FAR, None, ()))
        self.equal(run.laid(), ((1, ()), (2, ()), (2, (DEED,))))

    def test_lay_word_by_word(self):
        run = play_sworn(SWORN, LAST, begun(NEAR) + agreed((DEED,), NEAR) + (("answer", 3, NEAR),))
        self.bad(run, "answers", ("lay", 3, EVERY, 5, ()), ("lay", 2, NEAR, None, ()), ("lay", 3, LAST, None, ()))
        for known in (
            5, True, "", (), (1,), (1, (DEED,), 0), [1, (DEED,)], (0, ()), (1, (NEXT,)), (2, ()), (3, (DEED,)), (True, (DEED,)),
            (1, [DEED]), (1, (list(DEED),)), (1, None), (None, ()), (1, (("do", 0, True, 0, 5),)), (1, (("do", False, 1, 0, 5),)), (1, 1),
            (4, ()), (-1, ()),
        ):
            self.bad(run, "known", ("lay", 3, NEAR, known, (DEED,)), ("lay", 3, part(0, 1), known, ()))
        self.bad(run, "base", ("lay", 3, NEAR, None, ()), ("lay", 3, part(0, 2), (1, (DEED,)), (NEXT,)), ("lay", 3, NEAR, (1, ()), ()))
        self.bad(run, "ask", ("lay", 3, part(0, 2), None, (DEED,)), ("lay", 3, part(1, 2), (1, (DEED,)), (DEED,)))
        self.good(run, ("lay", 3, NEAR, (1, ()), (DEED,)), ("lay", 3, NEAR, None, (DEED,)))
        self.equal(run.laid(), ((1, ()), (3, (DEED,))))

    def test_several_best_answers(self):
        # Two locks of one reign with one deed each: either roll may be laid, and both are.
        liars = part(2, 4)
        run = Sworn(SWORN, liars)
        self.good(run, ("answer", 1, part(0, 2)), ("forge", 1, liars, 0, ()), ("lay", 1, EVERY, None, ()))
        self.good(run, ("echo", 1, (), (DEED,), part(0, 1)), ("echo", 1, (), (DEED,), liars), ("echo", 1, (), (NEXT,), FAR))
        self.equal(run.locked(), ((1, (), (DEED,)), (1, (), (NEXT,))))
        self.good(run, ("lock", 1, (), (DEED,), part(0, 1)), ("lock", 1, (), (NEXT,), part(1, 2)), ("answer", 2, part(0, 2)))
        self.good(run, ("forge", 2, liars, 0, ()))
        self.bad(run, "base", ("lay", 2, EVERY, None, ()), ("lay", 2, EVERY, None, (THIRD,)), ("lay", 2, EVERY, None, (DEED, NEXT)))
        self.good(run, ("lay", 2, EVERY, None, (NEXT,)), ("lay", 2, EVERY, None, (DEED,)))
        self.equal(run.laid(), ((1, ()), (2, (DEED,)), (2, (NEXT,))))
        self.equal((run.settled(), run.parted()), ((), None))
        self.good(run, ("lock", 1, (), (DEED,), liars))
        self.equal((run.settled(), run.parted()), (((1, ()), (1, (DEED,))), None))

    def test_parted_within_one_reign(self):
        liars = part(2, 4)
        run = Sworn(SWORN, liars)
        self.good(run, ("answer", 1, part(0, 2)), ("forge", 1, liars, 0, ()), ("lay", 1, EVERY, None, ()))
        self.good(run, ("echo", 1, (), (DEED,), (((0, 1), (2, 4)),)), ("echo", 1, (), (NEXT,), FAR))
        self.good(run, ("lock", 1, (), (DEED,), (((0, 1), (2, 4)),)), ("lock", 1, (), (NEXT,), FAR))
        self.equal(run.settled(), ((1, ()), (1, (DEED,)), (1, (NEXT,))))
        self.equal(run.parted(), ((1, (DEED,)), (1, (NEXT,))))

    def test_parted_is_the_least_second_and_then_the_least_first(self):
        run = Sworn(SWORN, EVERY)
        everything = {(1, (DEED, NEXT)), (2, (DEED,)), (3, (NEXT,)), (2, (DEED, THIRD))}
        self.good(run, *[("forge", r, EVERY, 0, ()) for r in (1, 2, 3)])
        self.good(run, *[("lay", r, EVERY, None, ()) for r in (1, 2, 3)])
        for r, roll in sorted(everything):
            self.good(run, *agreed(roll, r=r))
        self.equal(run.parted(), ((1, (DEED, NEXT)), (2, (DEED, THIRD))))
        run = Sworn(SWORN, EVERY)
        self.good(run, *[("forge", r, EVERY, 0, ()) for r in (1, 2, 3)])
        self.good(run, *[("lay", r, EVERY, None, ()) for r in (1, 2, 3)])
        self.good(run, *agreed((DEED, NEXT), r=1), *agreed((DEED,), r=2), *agreed((NEXT, DEED), r=3))
        self.equal(run.parted(), ((1, (DEED,)), (3, (NEXT,))))

    def test_echo_word_by_word(self):
        run = play_sworn(SWORN, LAST, begun(NEAR) + (("answer", 2, part(0, 1)),))
        self.bad(
            run, "base", ("echo", 2, (), (), NEAR), ("echo", 1, (DEED,), (DEED,), NEAR), ("echo", 3, (), (), LAST),
            ("echo", 1, (DEED,), (), NEAR), ("echo", 1, (DEED,), (DEED,), LAST),
        )
        self.bad(run, "promise", ("echo", 1, (), (DEED,), NEAR), ("echo", 1, (), (TO_0,), EVERY), ("echo", 1, (), (), part(0, 1)))
        self.good(run, ("echo", 1, (), (DEED,), part(1, 2)))
        self.bad(run, "line", ("echo", 1, (), (NEXT,), FAR), ("echo", 1, (), (), part(1, 2)), ("echo", 1, (), (NEXT, DEED), part(1, 3)))
        self.good(run, ("echo", 1, (), (DEED,), part(1, 2)), ("echo", 1, (), (DEED, NEXT), FAR), ("echo", 1, (), (THIRD,), LAST))
        self.equal(run.desks()[0], ((0, 1, 2, 0, (), 0, (), ()), (1, 3, 1, 0, (), 1, (), (DEED, NEXT)), (3, 4) + START))
        self.equal(run.locked(), ((1, (), (DEED, NEXT)),))
        self.bad(run, "change", ("echo", 1, (), (DEED, NEXT, TO_0), FAR))

    def test_the_base_that_was_echoed_stays(self):
        liars = part(2, 4)
        run = Sworn(SWORN, liars)
        self.good(run, ("answer", 1, part(0, 2)), ("forge", 1, liars, 0, ()), ("lay", 1, EVERY, None, ()))
        self.good(run, *agreed((DEED,)), ("answer", 2, part(1, 2)), ("forge", 2, liars, 0, ()), ("lay", 2, FAR, None, (DEED,)))
        self.good(run, ("answer", 2, part(0, 1)), ("return", part(0, 2), 0), ("answer", 2, part(0, 2)), ("lay", 2, EVERY, None, ()))
        self.equal(run.laid(), ((1, ()), (2, ()), (2, (DEED,))))
        self.good(run, ("echo", 2, (), (), part(0, 1)))
        self.bad(run, "line", ("echo", 2, (DEED,), (DEED,), part(0, 1)), ("echo", 2, (DEED,), (DEED, NEXT), EVERY))
        self.good(run, ("echo", 2, (DEED,), (DEED,), part(1, 2)))
        self.bad(run, "line", ("echo", 2, (), (DEED,), part(1, 2)))
        self.good(run, ("echo", 2, (), (DEED,), part(0, 1)))
        self.equal([desk[2:] for desk in run.desks()[0][:2]], [(2, 0, (), 2, (), (DEED,)), (2, 0, (), 2, (DEED,), (DEED,))])

    def test_echoes_of_older_reigns_bind_no_more(self):
        run = play_sworn(SWORN, NOBODY, begun() + (("echo", 1, (), (DEED,), EVERY),) + begun(r=2))
        self.good(run, ("echo", 2, (), (NEXT,), EVERY))
        self.bad(run, "promise", ("echo", 1, (), (DEED, DEED), EVERY))

    def test_rules_of_changes(self):
        own, calm, bold = [Sworn(RING[:2] + (rule,) + RING[3:], NOBODY) for rule in RULES]
        for run in (own, calm, bold):
            self.good(run, *begun())
            self.bad(run, "change", ("echo", 1, (), (TO_0,), EVERY), ("echo", 1, (), (DEED, TO_1, TO_1), EVERY))
        self.bad(own, "rule", ("echo", 1, (), (TO_1,), EVERY), ("echo", 1, (), (DEED, TO_1), EVERY))
        self.good(bold, ("echo", 1, (), (TO_1, TO_0, TO_1, DEED), EVERY))
        self.good(calm, ("echo", 1, (), (DEED, TO_1, NEXT), EVERY))
        self.bad(calm, "rule", ("echo", 1, (), (DEED, TO_1, NEXT, TO_0), EVERY))
        self.bad(calm, "change", ("echo", 1, (), (DEED, TO_1, NEXT, TO_1), EVERY))
        self.good(calm, ("lock", 1, (), (DEED,), EVERY))
        self.bad(calm, "rule", ("echo", 1, (), (DEED, TO_1, NEXT, TO_0), EVERY))
        self.good(calm, ("lock", 1, (), (DEED, TO_1), EVERY), ("echo", 1, (), (DEED, TO_1, NEXT, TO_0), EVERY))
        self.bad(calm, "rule", ("echo", 1, (), (DEED, TO_1, NEXT, TO_0, TO_1), EVERY))
        self.good(own, *agreed(()))
        self.bad(own, "rule", ("echo", 1, (), (DEED, TO_1), EVERY), ("echo", 1, (), (TO_1, TO_0), EVERY))
        self.good(own, ("echo", 1, (), (TO_1,), EVERY))
        self.bad(own, "rule", ("echo", 1, (), (TO_1, TO_0), EVERY))
        self.good(own, ("lock", 1, (), (TO_1,), EVERY), ("echo", 1, (), (TO_1, TO_0), EVERY))

    def test_own_asks_this_very_base(self):
        liars = part(2, 4)
        run = Sworn(RING, liars)
        self.good(run, ("answer", 1, part(0, 2)), ("forge", 1, liars, 0, ()), ("lay", 1, EVERY, None, ()), *agreed((DEED,)))
        self.good(run, ("answer", 2, part(0, 2)), ("forge", 2, liars, 0, ()), ("lay", 2, EVERY, None, (DEED,)))
        self.good(run, ("return", part(0, 1), 0), ("answer", 2, part(0, 1)), ("lay", 2, (((0, 1), (2, 4)),), None, ()))
        self.good(run, *agreed((DEED,), FAR, 2, (DEED,)))
        self.equal(run.settled(), ((1, ()), (1, (DEED,)), (2, (DEED,))))
        self.bad(run, "rule", ("echo", 2, (), (DEED, TO_1), part(0, 1)))
        self.good(run, ("echo", 2, (DEED,), (DEED, TO_1), FAR))

    def test_changes_within_the_base_are_not_asked_again(self):
        run = play_sworn(RING[:2] + ("calm",) + RING[3:], NOBODY, begun() + agreed((TO_1,)) + begun(r=2, base=(TO_1,)))
        self.good(run, ("echo", 2, (TO_1,), (TO_1, TO_0), EVERY))
        self.bad(run, "rule", ("echo", 2, (TO_1,), (TO_1, TO_0, TO_1), EVERY))
        # By own, too, though nothing of the new reign is settled yet.
        run = play_sworn(RING, NOBODY, begun() + agreed(()) + agreed((TO_1, DEED)) + begun(r=2, base=(TO_1, DEED)))
        self.good(run, ("echo", 2, (TO_1, DEED), (TO_1, DEED, NEXT), EVERY))
        self.bad(run, "rule", ("echo", 2, (TO_1, DEED), (TO_1, DEED, NEXT, TO_0), EVERY))
        self.bad(run, "line", ("echo", 2, (TO_1, DEED), (TO_1, DEED, TO_0), EVERY))
        # Locked, but not settled, in the reign ahead.
        run = play_sworn(RING[:2] + ("calm",) + RING[3:], NOBODY, begun() + (("echo", 1, (), (TO_1,), EVERY), ("lock", 1, (), (TO_1,), part(0, 2))))
        self.good(run, *begun(r=2, base=(TO_1,)))
        self.bad(run, "rule", ("echo", 2, (TO_1,), (TO_1, TO_0), EVERY))
        self.good(run, ("echo", 2, (TO_1,), (TO_1, DEED), EVERY), ("lock", 2, (TO_1,), (TO_1,), EVERY), ("echo", 2, (TO_1,), (TO_1, DEED, TO_0), EVERY))

    def test_liars_alone_need_the_base_alone(self):
        run = play_sworn(SWORN, LAST, begun(NEAR) + (("answer", 2, NEAR), ("lay", 2, NEAR, None, ())))
        self.good(run, ("echo", 1, (), (DEED, TO_0, NEXT), LAST), ("echo", 1, (), (NEXT,), LAST), ("lock", 2, (), (THIRD,), LAST))
        self.bad(run, "base", ("lock", 3, (), (), LAST), ("lock", 1, (DEED,), (DEED,), LAST), ("echo", 1, (DEED,), (NEXT,), LAST))
        self.equal(run.desks()[0][1], (3, 4) + START)
        # With one honest house they are asked of it alone.
        self.good(run, ("echo", 2, (), (THIRD,), EVERY))
        self.bad(run, "promise", ("echo", 1, (), (), (((2, 4),),)))

    def test_votes_ahead_of_the_lock_count(self):
        run = play_sworn(SWORN, part(1, 4), (("answer", 1, part(0, 1)), ("forge", 1, part(1, 4), 0, ()), ("lay", 1, EVERY, None, ())))
        self.good(run, ("lock", 1, (), (DEED, NEXT), part(1, 4)))
        self.equal((run.locked(), run.settled()), ((), ()))
        self.good(run, ("echo", 1, (), (DEED,), part(0, 1)), ("echo", 1, (), (NEXT,), part(1, 3)))
        self.equal((run.locked(), run.settled()), (((1, (), ()),), ((1, ()),)))
        self.good(run, ("echo", 1, (), (DEED,), part(2, 4)))
        self.equal((run.locked(), run.settled()), (((1, (), (DEED,)),), ((1, ()), (1, (DEED,)))))

    def test_lock_word_by_word(self):
        run = play_sworn(SWORN, LAST, begun(NEAR) + (("echo", 1, (), (DEED, NEXT), NEAR),))
        self.bad(run, "base", ("lock", 1, (DEED,), (DEED,), NEAR), ("lock", 2, (), (), NEAR), ("lock", 2, (), (THIRD,), LAST))
        self.bad(run, "lock", ("lock", 1, (), (NEXT,), NEAR), ("lock", 1, (), (DEED, NEXT, NEXT), NEAR))
        self.good(run, ("lock", 1, (), (DEED,), part(0, 2)))
        self.bad(run, "line", ("lock", 1, (), (DEED,), NEAR), ("lock", 1, (), (), part(0, 1)), ("lock", 1, (), (DEED,), part(1, 2)))
        self.good(run, ("lock", 1, (), (DEED, NEXT), NEAR))
        self.bad(run, "line", ("lock", 1, (), (DEED, NEXT), part(2, 3)), ("lock", 1, (), (), part(2, 3)))
        self.good(run, ("answer", 2, part(0, 1)))
        self.bad(run, "promise", ("lock", 1, (), (NEXT,), NEAR), ("lock", 1, (), (DEED, NEXT), part(0, 1)))
        self.equal(run.settled(), ((1, ()), (1, (DEED,)), (1, (DEED, NEXT))))

    def test_locks_of_an_older_reign_do_not_bind(self):
        run = play_sworn(SWORN, NOBODY, begun() + agreed((DEED,)) + (("return", part(0, 3), 0),) + begun(part(0, 3), 2))
        self.good(run, *agreed((NEXT,), NEAR, 2))
        self.good(run, ("answer", 3, FAR), ("lay", 3, FAR, None, (NEXT,)))
        self.equal(run.parted(), ((1, (DEED,)), (2, (NEXT,))))
        self.good(run, ("return", LAST, 3), ("echo", 3, (NEXT,), (NEXT, DEED), FAR), ("lock", 3, (NEXT,), (NEXT,), FAR))
        self.equal(run.desks()[0][-1], (1, 4, 3, 3, (NEXT,), 3, (NEXT,), (NEXT, DEED)))

    def test_locked_are_the_longest_alone(self):
        run = play_sworn(SWORN, NOBODY, begun() + (("echo", 1, (), (DEED, NEXT, THIRD), NEAR), ("echo", 1, (), (DEED,), LAST)))
        self.equal(run.locked(), ((1, (), (DEED, NEXT, THIRD)),))
        self.good(run, ("lock", 1, (), (DEED, NEXT), EVERY), *begun(r=2, base=(DEED, NEXT)), ("echo", 2, (DEED, NEXT), (DEED, NEXT), FAR))
        self.equal(run.locked(), ((1, (), (DEED, NEXT, THIRD)), (2, (DEED, NEXT), (DEED, NEXT))))
        run = play_sworn(SWORN, NOBODY, begun() + (("echo", 1, (), (DEED, NEXT), part(0, 2)), ("echo", 1, (), (DEED, THIRD), part(2, 4))))
        self.equal(run.locked(), ((1, (), (DEED,)),))

    def test_echo_is_of_the_base_and_vote_of_the_roll(self):
        lots = (("a", 3),)
        one, two, three = [("lot", 0, n) for n in (1, 2, 3)]
        rows = (((one, two, one, one, None),), ((one, one, three, one, None),))
        run = play_sworn((lots, "sworn", "bold", rows, ((1,), ())), ((),), (("answer", 1, part(0, 1)), ("lay", 1, part(0, 1), None, ())))
        self.good(run, ("echo", 1, (), (DEED, TO_1), part(0, 1)))
        self.equal(run.locked(), ())
        self.good(run, ("echo", 1, (), (DEED, TO_1), part(1, 2)), ("lock", 1, (), (DEED, TO_1), part(0, 2)))
        self.equal((run.locked(), run.settled()), (((1, (), (DEED, TO_1)),), ((1, ()), (1, (DEED,)))))
        self.good(run, ("lock", 1, (), (DEED, TO_1), part(2, 3)))
        self.equal(run.settled(), ((1, ()), (1, (DEED,)), (1, (DEED, TO_1))))

    def test_return(self):
        moves = begun(NEAR) + agreed((DEED,), NEAR)
        run = play_sworn(SWORN, LAST, moves)
        self.bad(run, "liar", ("return", LAST, 0), ("return", EVERY, 99))
        self.bad(run, "at", ("return", NEAR, 5))
        desks = (START, (1,) + START[1:], (1,) + START[1:], (1, 0, (), 1, (), (DEED,)), (1, 1, (DEED,), 1, (), (DEED,)))
        for at, desk in enumerate(desks):
            run = play_sworn(SWORN, LAST, moves + (("return", part(1, 2), at),))
            rows = run.desks()[0]
            self.equal(rows[0][2:] if at == 4 else rows[1][2:], desk)
            self.equal(run.fallen(), (((1, 2), (3, 4)),))
            self.equal((run.settled(), run.locked()), (((1, ()), (1, (DEED,))), ((1, (), (DEED,)),)))

    def test_looks(self):
        run = play_sworn(SWORN, LAST, begun(NEAR) + agreed((DEED,), NEAR) + (("open", 0), ("open", 0)))
        self.bad(run, "look", ("tell", 2, EVERY), ("show", 2), ("telllie", 2, NEAR, 9, ()))
        self.bad(run, "liar", ("tell", 0, LAST), ("tell", 0, EVERY))
        self.bad(run, "honest", ("telllie", 0, NEAR, 9, ()), ("telllie", 0, EVERY, 0, ()))
        self.bad(run, "lock", ("telllie", 0, LAST, 1, (NEXT,)), ("telllie", 0, LAST, 0, (DEED,)), ("telllie", 0, LAST, 2, (DEED,)))
        self.good(run, ("telllie", 0, LAST, 1, ()), ("telllie", 0, LAST, 0, ()), ("telllie", 0, LAST, 1, (DEED,)))
        self.bad(run, "tellers", ("show", 0), ("show", 1))
        self.good(run, ("tell", 0, part(0, 2)), ("show", 0))
        self.bad(run, "look", ("show", 0), ("tell", 0, EVERY), ("telllie", 0, EVERY, 5, ()))
        self.equal(run.looks(), (("desk", (DEED,), True), ("desk", None, None)))

    def test_looks_that_are_shown_wrong_or_not_settled(self):
        run = play_sworn(SWORN, part(2, 4), (("answer", 1, part(0, 2)), ("forge", 1, part(2, 4), 0, ()), ("lay", 1, EVERY, None, ())))
        self.good(run, ("open", 0), *agreed((DEED,)), ("open", 0), ("return", part(1, 2), 0))
        for look in (0, 1):
            self.good(run, ("tell", look, part(1, 2)), ("telllie", look, part(2, 4), 0, ()), ("show", look))
        self.equal(run.looks(), (("desk", (), True), ("desk", (), False)))
        self.good(run, ("open", 0), ("echo", 1, (), (DEED, NEXT), EVERY), ("lock", 1, (), (DEED, NEXT), part(0, 1)), ("tell", 2, part(0, 1)))
        self.good(run, ("telllie", 2, part(2, 4), 1, (DEED,)))
        self.bad(run, "settled", ("show", 2))
        self.good(run, ("lock", 1, (), (DEED, NEXT), part(2, 4)), ("show", 2))
        self.equal(run.looks()[2], ("desk", (DEED, NEXT), True))

    def test_the_least_roll_is_best(self):
        run = Sworn(SWORN, part(2, 4))
        self.good(run, ("answer", 1, part(0, 2)), ("forge", 1, part(2, 4), 0, ()), ("lay", 1, EVERY, None, ()))
        self.good(run, ("echo", 1, (), (DEED,), (((0, 1), (2, 4)),)), ("echo", 1, (), (NEXT,), FAR), ("lock", 1, (), (DEED,), part(2, 4)))
        self.good(run, ("lock", 1, (), (DEED,), part(0, 1)), ("lock", 1, (), (NEXT,), part(1, 2)), ("open", 0), ("tell", 0, part(0, 2)))
        self.good(run, ("telllie", 0, LAST, 1, (NEXT,)), ("show", 0))
        self.equal(run.looks(), (("desk", (DEED,), True),))

    def test_huge_lots(self):
        lots = (("a", 10 ** 12),)
        most = ("lot", 0, 2 * 10 ** 12 // 3 + 1)
        pact = (lots, "sworn", "own", (((most,) * 4 + (None,),),), ((),))
        third = 10 ** 12 // 3
        liars = part(0, third)
        crowd, rest = part(third, 10 ** 12), part(0, 10 ** 12)
        run = play_sworn(pact, liars, (("answer", 5, crowd), ("forge", 5, liars, 0, ()), ("lay", 5, rest, None, ())) + agreed((DEED,), rest, 5))
        self.equal(run.desks(), (((0, third) + START, (third, 10 ** 12, 5, 5, (DEED,), 5, (), (DEED,))),))
        self.equal((run.settled(), run.fallen()), (((5, ()), (5, (DEED,))), liars))

    def test_rolls_of_many_deeds(self):
        roll = tuple(("do", 0, n + 1, 0, n) for n in range(60))
        run = play_sworn(SWORN, LAST, begun(NEAR) + (("echo", 1, (), roll, NEAR),))
        for many in range(61):
            played = play_sworn(SWORN, LAST, run.moves() + (("lock", 1, (), roll[:many], NEAR),))
            self.equal(played.settled(), tuple((1, roll[:n]) for n in range(many + 1)))
        self.equal(run.locked(), ((1, (), roll),))

    def test_in_two_moves(self):
        dice = random.Random(66)
        split = 0
        for at in range(40):
            lots = ((("a", 3), ("b", 1)), (("a", 4),), (("a", 2), ("b", 2)))[at % 3]
            pact = random_pact(dice, lots, "sworn", RULES[at % 3], 2, 2, 2)
            houses = [(lot, n) for lot, (_, size) in enumerate(lots) for n in range(size)]
            liars = dice.sample(houses, at % 3)
            make, slow = Moves(dice, pact, 3), SlowSworn(pact, liars)
            whole, parts = [Sworn(pact, crowd_of_houses(lots, liars)) for _ in range(2)]
            places = [0]
            for _ in range(120):
                move = make.sworn(slow)
                if slow.do(move) is not None:
                    continue
                whole.do(move)
                if move[0] == "return":
                    move = (move[0], move[1], places[move[2]])
                done = self.do_in_two(dice, lots, parts, move)
                split += done
                places.append(places[-1] + 1 + done)
                for name in ("desks", "laid", "locked", "settled", "parted", "fallen", "looks"):
                    self.equal(getattr(parts, name)(), getattr(whole, name)())
        self.assertGreater(split, 200)

    def do_in_two(self, dice, lots, run, move):
        at = {"answer": 2, "forge": 2, "echo": 4, "lock": 4, "return": 1, "tell": 2, "telllie": 2}.get(move[0])
        return self.split(dice, lots, run, move, at)

    def test_consequences(self):
        dice = random.Random(166)
        parted = 0
        for at in range(60):
            lots = ((("a", 3),), (("a", 4),))[at % 2]
            pact = random_pact(dice, lots, "sworn", RULES[at % 3], dice.randint(1, 2), 1, 2)
            houses = [(lot, n) for lot, (_, size) in enumerate(lots) for n in range(size)]
            liars = dice.sample(houses, at % 4)
            make, slow, run = Moves(dice, pact, 3), SlowSworn(pact, liars), Sworn(pact, crowd_of_houses(lots, liars))
            settled, locked = set(), set()
            for _ in range(150):
                move = make.sworn(slow)
                if slow.do(move) is None:
                    run.do(move)
                    self.assertLessEqual(settled, set(run.settled()))
                    self.assertLessEqual(locked, set(slow.all_locked()))
                    settled, locked = set(run.settled()), set(slow.all_locked())
            self.check_desks(run, {(0, ())} | {(r, roll) for r, _, roll in locked})
            for r, base, roll in locked:
                for many in range(len(base), len(roll)):
                    self.assertIn((r, base, roll[:many]), locked)
            splits = stair_holds(lots, splitters(pact), counts_of(lots, run.fallen()))
            parted += run.parted() is not None
            if not splits:
                self.equal(run.parted(), None)
                reigns = [line[0] for line in run.locked()]
                self.equal(len(reigns), len(set(reigns)))
                self.equal([1 for r, roll in settled for q, base in run.laid() if q > r and base[:len(roll)] != roll], [])
            self.equal(seen(play_sworn(pact, run.liars(), run.moves())), seen(run))
        self.assertGreater(parted, 0)

    def check_desks(self, run, locks):
        for rows in run.desks():
            for _, _, promise, reign, roll, echo_reign, _, _ in rows:
                self.assertLessEqual(max(reign, echo_reign), promise)
                self.assertIn((reign, roll), locks)
        for reign, base in run.laid():
            self.assertIn(base, [roll for q, roll in locks if q < reign])
