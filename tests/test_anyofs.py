"""[5], [30]: any so many of several stairs."""

import random

from assentwhole.anyofs import any_of
from assentwhole.errors import NotUsable
from assentwhole.stairs import check_stair
from tests.samples import LOTS, SMALL_LOTS, Checks, all_stairs, told_stair, under


def holds_at(stair, counts):
    return any(under(member, counts) for member in stair)


class AnyOfTests(Checks):
    def test_examples(self):
        self.equal(any_of(LOTS, (((0, 1),), ((1, 0),), ((2, 0),)), 2), ((1, 1), (2, 0)))

    def test_by_all_counts(self):
        dice = random.Random(16)
        for lots in SMALL_LOTS:
            every = all_stairs(lots)
            for _ in range(60):
                stairs = tuple(dice.choice(every) for _ in range(dice.randint(0, 5)))
                for many in range(len(stairs) + 2):
                    wanted = told_stair(lots, lambda counts: sum(holds_at(s, counts) for s in stairs) >= many)
                    self.equal(any_of(lots, stairs, many), wanted)

    def test_ends(self):
        self.equal(any_of(LOTS, (), 0), ((0, 0),))
        self.equal(any_of(LOTS, (), 1), ())
        one = ((0, 1), (2, 0))
        self.equal(any_of(LOTS, (one,), 0), ((0, 0),))
        self.equal(any_of(LOTS, (one,), 1), one)
        self.equal(any_of(LOTS, (one,), 2), ())
        self.equal(any_of(LOTS, (one, ()), 2), ())

    def test_a_stair_that_stands_twice_counts_twice(self):
        one = ((0, 1), (2, 0))
        self.equal(any_of(LOTS, (one, one), 2), one)
        self.equal(any_of(LOTS, (one, one, ((3, 1),)), 3), ((3, 1),))
        self.equal(any_of(many=2, stairs=(one, one, ()), lots=LOTS), one)

    def test_greatest_products(self):
        lots = (("a", 10 ** 12), ("b", 10 ** 12), ("c", 10 ** 12))
        dice = random.Random(17)
        sixteen = [
            tuple(sorted((100 * at + k, 5000 - 100 * at - k, 10 * ((at * 7 + k) % 16)) for at in range(16)))
            for k in range(3)
        ]
        ones = [((dice.randint(0, 9), dice.randint(0, 9), dice.randint(0, 9)),) for _ in range(12)]
        for stairs in (tuple(sixteen), tuple(ones), ((),) * 300 + (ones[0],)):
            for many in (0, 1, 2, len(stairs) // 2, len(stairs), len(stairs) + 1):
                found = any_of(lots, stairs, many)
                check_stair(lots, found)
                for counts in found[:40]:
                    self.assertGreaterEqual(sum(holds_at(stair, counts) for stair in stairs), many)
        wanted = sorted(sum(1 for member in row) for row in sixteen)
        self.equal(wanted, [16, 16, 16])

    def test_wrong_ones(self):
        one = ((0, 1), (2, 0))
        for stairs in (None, [], [one], "", 5, one, (None,), (one, [one]), (one, ((0, 1), (2, 1))), (((True, 0),),)):
            self.refused(NotUsable("stairs"), any_of, LOTS, stairs, -1)
        for many in (-1, 4, True, None, "1", (1,)):
            self.refused(NotUsable("many"), any_of, LOTS, (one, one), many)
        self.refused(NotUsable("many"), any_of, many=2, stairs=(), lots=LOTS)
