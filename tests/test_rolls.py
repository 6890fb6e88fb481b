"""[42], [6]: rolls of a pact."""

import itertools

from assentwhole.errors import BadPact, BadRoll
from assentwhole.rolls import charter_of, check_roll, follows
from tests.samples import DUO, LOTS, PACT, ROW, Checks

DO = ("do", 0, 1, 4, -5)


def pact_with(changes):
    return (LOTS, "plain", "own", ((ROW,),) * len(changes), changes)


class RollTests(Checks):
    def test_examples(self):
        self.refused(BadRoll(1), check_roll, DUO, (("change", 1), ("do", 0, 0, 4, 5)))
        self.equal(charter_of(DUO, (("change", 1), ("do", 0, 1, 4, -5))), 1)
        self.equal(follows(DUO, (("change", 1), ("change", 1))), False)

    def test_how_many(self):
        self.equal(check_roll(DUO, ()), 0)
        self.equal(check_roll(DUO, (DO,) * 60), 60)
        self.equal(check_roll(DUO, (DO, ("change", 1), ("change", 0), ("do", 10 ** 6, 10 ** 6, 10 ** 6, -10 ** 6))), 4)
        self.equal(check_roll(PACT, (("change", 0), ("do", 0, 1, 0, 0))), 2)

    def test_all_of_it(self):
        for thing in (None, [], [DO], "", 0, True, {}):
            self.refused(BadRoll(-1), check_roll, DUO, thing)

    def test_deeds(self):
        for thing in (
            None, (), list(DO), DO[:4], DO + (0,), ("do", -1, 1, 0, 0), ("do", 0, 0, 0, 0), ("do", 0, 1, -1, 0),
            ("do", True, 1, 0, 0), ("do", 0, True, 0, 0), ("do", 0, 1, True, 0), ("do", 0, 1, 0, True), ("do", "0", 1, 0, 0),
            ("do", 0, 1, 0, None), ("do", 0, 1, 0, (5,)), ("Do", 0, 1, 0, 0), ("change",), ("change", 2), ("change", -1),
            ("change", True), ("change", None), ("change", 0, 0), ["change", 0], ("change", 0, 0, 0, 0), ("do", 0), 5, "do",
            (True, 0, 1, 0, 0), (None, 1), ("change", (0,)), ("change", "0"),
        ):
            for ahead in range(3):
                roll = (DO, ("change", 1))[:ahead] + (thing, None)
                self.refused(BadRoll(ahead), check_roll, DUO, roll)
                self.refused(BadRoll(ahead), charter_of, DUO, roll)
                self.refused(BadRoll(ahead), follows, DUO, roll)

    def test_changes_are_to_charters_of_the_pact(self):
        self.refused(BadRoll(0), check_roll, PACT, (("change", 1),))
        self.equal(check_roll(DUO, (("change", 1),)), 1)

    def test_charters(self):
        pact = pact_with(((), (), ()))
        self.equal(charter_of(pact, ()), 0)
        self.equal(charter_of(pact, (DO, DO)), 0)
        self.equal(charter_of(pact, (("change", 2), DO, ("change", 1), DO, DO)), 1)
        self.equal(charter_of(pact, (("change", 2), ("change", 0))), 0)

    def test_whether_rolls_follow(self):
        for changes in (((1,), (2,), ()), ((1, 2), (), (0,)), ((), (0,), (1,)), ((1,), (0,), (0, 1))):
            pact = pact_with(changes)
            for many in range(4):
                for charters in itertools.product(range(3), repeat=many):
                    here, wanted = 0, True
                    for charter in charters:
                        wanted = wanted and charter in changes[here]
                        here = charter
                    self.equal(follows(pact, tuple(("change", charter) for charter in charters)), wanted)
                    mixed = (DO,) + tuple(deed for charter in charters for deed in (("change", charter), DO))
                    self.equal(follows(pact, mixed), wanted)
        self.equal(follows(DUO, ()), True)

    def test_a_wrong_pact(self):
        for call in (check_roll, charter_of, follows):
            self.refused(BadPact(-1, "shape"), call, None, None)
            self.refused(BadPact(-1, "rule"), call, (LOTS, "plain", None, (), ()), (None,))
