"""[41], [6]: pacts checked."""

from assentwhole.errors import BadLots, BadPact
from assentwhole.pactchecks import check_pact
from tests.samples import (
    BOTH, DUO, LOTS, MORE, PACT, ROW, RULES, SWORN, THREE, TWO, Checks, some_pacts,
)

VOW = (TWO, TWO, TWO, TWO, None)


def with_part(pact, at, part):
    return pact[:at] + (part,) + pact[at + 1:]


class PactCheckTests(Checks):
    def bad(self, at, word, thing):
        self.refused(BadPact(at, word), check_pact, thing)

    def test_examples(self):
        self.equal(check_pact(DUO), 2)
        self.equal(check_pact(PACT), 1)
        self.equal(check_pact(SWORN), 1)
        self.bad(-1, "charters", (LOTS, "plain", "own", ((ROW,), (ROW, ROW)), ((), ())))
        self.bad(1, "echo", (LOTS, "sworn", "own", (((TWO, TWO, TWO, TWO, None), ROW),), ((),)))

    def test_pacts(self):
        for pact in some_pacts(20, 41):
            self.equal(check_pact(pact), len(pact[3]))
        for rule in RULES:
            self.equal(check_pact((LOTS, "plain", rule, ((ROW, MORE),) * 6, ((1, 2, 3, 4, 5), (), (0,), (), (5,), (0, 4)))), 6)

    def test_shape(self):
        for thing in (None, (), 5, "pact", list(PACT), PACT[:4], PACT + (None,), (PACT,), True, [], {}.items):
            self.bad(-1, "shape", thing)

    def test_lots_come_first(self):
        for lots, error in (
            (None, BadLots(-1, "shape")), ((), BadLots(-1, "shape")), (list(LOTS), BadLots(-1, "shape")),
            ((("a", 0),), BadLots(0, "size")), ((("a", 3), ("a", 1)), BadLots(1, "twice")), ((("of", 1),), BadLots(0, "word")),
            ((("a", True),), BadLots(0, "size")),
        ):
            self.refused(error, check_pact, with_part(PACT, 0, lots))
            self.refused(error, check_pact, (lots, None, None, None, None))

    def test_manner_and_rule(self):
        for word in (None, "", "Plain", "swornn", True, ["plain"], ("plain",), 1, "own"):
            self.bad(-1, "manner", with_part(PACT, 1, word))
            self.bad(-1, "manner", (LOTS, word, None, None, None))
        for word in (None, "", "plain", "Own", 0, ["own"], ("calm",), "bol"):
            self.bad(-1, "rule", with_part(PACT, 2, word))
            self.bad(-1, "rule", (LOTS, "sworn", word, None, None))

    def test_charters(self):
        for thing in (
            None, (), [], [(ROW,)], ((),), ((), ()), ([ROW],), ((ROW,), [ROW]), (ROW, None), ((ROW,), ()), ((), (ROW,)),
            ((ROW,), (ROW, ROW)), ((ROW, ROW), (ROW,)), "ab", ((ROW,), 5), 5, True,
        ):
            self.bad(-1, "charters", with_part(PACT, 3, thing))
            self.bad(-1, "charters", (LOTS, "plain", "bold", thing, None))

    def test_rows_are_numbered_through_all_charters(self):
        for at in range(6):
            rows = [ROW] * 6
            for thing in (None, (), ROW[:4], ROW + (TWO,), list(ROW), 5, True, "askit"):
                rows[at] = thing
                self.bad(at, "row", (LOTS, "plain", "own", (tuple(rows[:3]), tuple(rows[3:])), ((), ())))
        # A row is looked at only when those before it are right.
        self.bad(0, "ask", (LOTS, "plain", "own", (((None,) * 5, ()),), ((),)))
        self.bad(1, "row", (LOTS, "plain", "own", ((ROW, ()), ((None,) * 5, ROW)), ((), ())))

    def test_steps_in_sequence(self):
        words = ("ask", "echo", "vote", "look", "hold")
        for row, manner, left in ((ROW, "plain", 1), (VOW, "sworn", 4)):
            for at, word in enumerate(words):
                for thing in (
                    TWO if at == left else None, list(TWO), ("lot", 0, 0), ("lot", 0, 4), ("lot", 0, 5), ("lot", True, 1),
                    ("least", ()), ("least", ((0, 0),)), ("any", 1, (TWO, None)), ("spare", ()), ("spare", ((0, 0),)),
                    False, 0, "", (), ("heavy", 2, (1, True), (TWO, TWO)),
                ):
                    wrong = with_part(row, at, thing)
                    self.bad(0, word, (LOTS, manner, "own", ((wrong,),), ((),)))
                    self.bad(2, word, (LOTS, manner, "own", ((row,), (row,), (wrong,)), ((),)))
                    for later in range(at + 1, 5):
                        self.bad(0, word, (LOTS, manner, "own", ((with_part(wrong, later, 7),),), None))

    def test_none_in_the_other_manner(self):
        self.bad(0, "echo", (LOTS, "sworn", "own", ((ROW,),), ((),)))
        self.bad(0, "echo", (LOTS, "plain", "own", ((VOW,),), ((),)))
        self.bad(0, "hold", (LOTS, "sworn", "own", (((TWO,) * 5,),), ((),)))
        self.bad(0, "echo", (LOTS, "plain", "own", (((TWO,) * 5,),), ((),)))
        self.bad(0, "hold", (LOTS, "plain", "own", (((TWO, None, TWO, TWO, None),),), ((),)))
        self.bad(0, "ask", (LOTS, "plain", "own", (((None,) * 5,),), ((),)))

    def test_changes(self):
        for thing in (None, (), [(), ()], ((),), ((), (), ()), "ab", 5):
            self.bad(-1, "changes", with_part(DUO, 4, thing))
        three = (LOTS, "plain", "own", ((ROW,),) * 3, None)
        for charter in range(3):
            others = [other for other in range(3) if other != charter]
            for thing in (
                None, [], list(others), (charter,), (3,), (-1,), tuple(others[::-1]), (others[0], others[0]), ("0",),
                (others[0], charter), (True,) if charter != 1 else (False,), 5, (None,), (others[1], 3), ((others[0],),),
            ):
                changes = [(1, 2), (0, 2), (0, 1)]
                changes[charter] = thing
                self.bad(charter, "changes", with_part(three, 4, tuple(changes)))
                changes[2] = None
                self.bad(charter, "changes", with_part(three, 4, tuple(changes)))
        self.equal(check_pact(with_part(three, 4, ((1, 2), (0, 2), (0, 1)))), 3)

    def test_rows_come_before_changes(self):
        self.bad(0, "ask", (LOTS, "plain", "own", (((None,) * 5,),), 5))
        self.bad(0, "vote", (LOTS, "plain", "own", (((TWO, None, 5, 5, 5),),), ((0,),)))

    def test_huge_lots(self):
        lots = (("a", 10 ** 12), ("b", 10 ** 12))
        trust = ("heavy", 10 ** 6, (10 ** 6, 1), (("lot", 0, 10 ** 12), ("lot", 1, 5)))
        self.equal(check_pact((lots, "plain", "calm", (((trust, None, trust, trust, trust),),), ((),))), 1)
        self.equal(check_pact((FOURS, "sworn", "own", (((THREE,) * 4 + (None,),),), ((),))), 1)
        self.bad(0, "look", (LOTS, "plain", "own", (((TWO, None, TWO, ("lot", 0, 0), BOTH),),), ((),)))


FOURS = (("n", 4),)
