"""[4], [28], [40], (G2): stairs."""

import random

from assentwhole.errors import BadCounts, BadStair, BadTrust
from assentwhole.grids import atoms_of, grid_of
from assentwhole.stairs import check_stair, stair_holds, stair_of, trust_of
from tests.samples import (
    BOTH, HUGE, LOTS, SMALL_LOTS, TWO, Checks, all_counts, all_stairs, some_trusts, told_holds, told_stair, under,
)


class StairTests(Checks):
    def test_examples(self):
        self.equal(check_stair(LOTS, ((0, 1), (2, 0))), 2)
        self.refused(BadStair(1), check_stair, LOTS, ((0, 1), (2, 1)))
        self.equal(stair_of(LOTS, ("any", 1, (TWO, ("lot", 1, 1)))), ((0, 1), (2, 0)))
        self.equal(stair_of(LOTS, BOTH), ((2, 1),))

    def test_right_stairs(self):
        for stair in ((), ((0, 0),), ((3, 1),), ((0, 1), (3, 0)), ((1, 1), (2, 0))):
            self.equal(check_stair(lots=LOTS, thing=stair), len(stair))
        for lots in SMALL_LOTS:
            for stair in all_stairs(lots):
                self.equal(check_stair(lots, stair), len(stair))
        many = tuple((at, 1, 999 - at) for at in range(1000))
        self.equal(check_stair(HUGE, many), 1000)

    def test_first_wrong_member(self):
        self.refused(BadStair(-1), check_stair, LOTS, None)
        self.refused(BadStair(-1), check_stair, LOTS, [(0, 1)])
        self.refused(BadStair(-1), check_stair, LOTS, "")
        for at, stair in (
            (0, (None,)), (0, ((0,),)), (0, ([0, 1],)), (0, ((True, 0),)), (0, ((4, 0),)), (0, ((0, -1),)), (0, (5, 5)),
            (1, ((0, 1), 5)), (1, ((0, 1), (0, 1))), (1, ((1, 0), (0, 1))), (1, ((0, 0), (1, 0))), (1, ((1, 0), (1, 1))),
            (1, ((0, 1), (1, 1), 5)), (1, ((0, 1), (3, 2))), (1, ((1, 0), (2, 0))),
        ):
            self.refused(BadStair(at), check_stair, LOTS, stair)
        lots = (("a", 3), ("b", 3), ("c", 3))
        self.refused(BadStair(2), check_stair, lots, ((0, 1, 2), (1, 0, 3), (1, 1, 2)))
        self.refused(BadStair(3), check_stair, lots, ((0, 1, 3), (0, 2, 1), (1, 0, 1), (1, 3, 1)))

    def test_stairs_of_trusts_by_all_counts(self):
        for lots in SMALL_LOTS:
            for trust in some_trusts(lots, 150, seed=12):
                wanted = told_stair(lots, lambda counts, t=trust: told_holds(lots, t, counts))
                self.equal(stair_of(lots, trust), wanted)

    def test_deeper_trusts_by_all_counts(self):
        lots = (("a", 4), ("b", 3), ("c", 2))
        dice = random.Random(13)
        trusts = some_trusts(lots, 40, seed=14)
        for _ in range(40):
            parts = tuple(dice.choice(trusts) for _ in range(dice.randint(1, 5)))
            weights = tuple(dice.randint(0, 4) for _ in parts)
            trust = ("heavy", dice.randint(0, sum(weights) + 1), weights, parts)
            self.equal(stair_of(lots, trust), told_stair(lots, lambda counts, t=trust: told_holds(lots, t, counts)))

    def test_never_and_always(self):
        for trust in (("lot", 0, 4), ("any", 1, ()), ("least", ()), ("spare", ((0, 0),)), ("any", 3, (TWO, TWO))):
            self.equal(stair_of(LOTS, trust), ())
        for trust in (("lot", 0, 0), ("any", 0, ()), ("least", ((0, 0),)), ("spare", ()), ("heavy", 0, (1,), (TWO,))):
            self.equal(stair_of(LOTS, trust), ((0, 0),))

    def test_numbers_of_stairs_are_atoms(self):
        for trust in some_trusts(LOTS, 100, seed=15):
            atoms = atoms_of(LOTS, trust)
            for member in stair_of(LOTS, trust):
                for lot, number in enumerate(member):
                    self.assertTrue(number == 0 or (lot, number) in atoms)

    def test_stair_holds(self):
        for lots in SMALL_LOTS[2:5]:
            for stair in all_stairs(lots):
                for counts in all_counts(lots):
                    self.equal(stair_holds(lots, stair, counts), any(under(member, counts) for member in stair))
        self.equal(stair_holds(counts=(2, 0), stair=((2, 0),), lots=LOTS), True)

    def test_trust_of(self):
        for stair in all_stairs(LOTS):
            self.equal(trust_of(LOTS, stair), ("least", stair))
            self.equal(stair_of(LOTS, trust_of(LOTS, stair)), stair)

    def test_great_lots_and_a_grid_of_a_thousand(self):
        def made(step):
            def rows(total):
                triples = ((a, b, total - a - b) for a in range(10) for b in range(10) if 0 <= total - a - b <= 9)
                return tuple(tuple(step * number for number in row) for row in triples)

            lots = tuple((word, 10 * step - 1) for word in "abc")
            parts = (("least", rows(12)), ("spare", rows(14)), ("lot", 0, 7 * step))
            return lots, ("any", 2, parts + (("heavy", 3, (2, 1, 1), parts),))

        lots, trust = made(10 ** 11)
        self.equal(grid_of(lots, trust), 1000)
        stair = stair_of(lots, trust)
        check_stair(lots, stair)
        small, wide = made(1)
        wanted = told_stair(small, lambda counts: told_holds(small, wide, counts))
        self.equal(stair, tuple(tuple(10 ** 11 * number for number in member) for member in wanted))
        self.assertGreater(len(stair), 40)

    def test_eight_lots(self):
        lots = tuple((f"w{at}", 10 ** 12) for at in range(8))
        trust = ("any", 4, tuple(("lot", at, 10 ** 12) for at in range(8)))
        stair = stair_of(lots, trust)
        self.equal(len(stair), 70)
        self.equal({sum(1 for n in member if n) for member in stair} == {4}, True)

    def test_wrong_ones(self):
        self.refused(BadTrust(0, "many"), stair_of, LOTS, ("lot", 0, True))
        self.refused(BadStair(0), stair_holds, LOTS, ((4, 0),), (9, 9))
        self.refused(BadCounts(0), stair_holds, LOTS, ((3, 0),), (9, 9))
        self.refused(BadStair(-1), trust_of, LOTS, [])
        self.refused(BadStair(1), trust_of, stair=((0, 0), (0, 1)), lots=LOTS)
