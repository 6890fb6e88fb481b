"""[5], [29], [40]: either and both."""

import itertools

from assentwhole.anyofs import any_of
from assentwhole.errors import BadStair
from assentwhole.stairjoins import both_of, either_of
from assentwhole.stairs import check_stair
from tests.samples import LOTS, SMALL_LOTS, Checks, all_stairs, told_stair, under


def holds_at(stair, counts):
    return any(under(member, counts) for member in stair)


class StairJoinTests(Checks):
    def test_examples(self):
        self.equal(both_of(LOTS, ((0, 1), (2, 0)), ((1, 0),)), ((1, 1), (2, 0)))

    def test_all_pairs_of_small_stairs(self):
        for lots in SMALL_LOTS:
            for one, two in itertools.product(all_stairs(lots), repeat=2):
                either = told_stair(lots, lambda counts: holds_at(one, counts) or holds_at(two, counts))
                both = told_stair(lots, lambda counts: holds_at(one, counts) and holds_at(two, counts))
                self.equal(either_of(lots, one, two), either)
                self.equal(both_of(lots, one, two), both)
                self.equal(any_of(lots, (one, two), 1), either)
                self.equal(any_of(lots, (one, two), 2), both)

    def test_ends(self):
        some = ((0, 1), (2, 0))
        self.equal(either_of(LOTS, (), some), some)
        self.equal(either_of(LOTS, ((0, 0),), some), ((0, 0),))
        self.equal(either_of(LOTS, ((3, 1),), some), some)
        self.equal(both_of(LOTS, (), some), ())
        self.equal(both_of(LOTS, ((0, 0),), some), some)
        self.equal(both_of(two=((3, 1),), one=some, lots=LOTS), ((3, 1),))

    def test_greatest_product(self):
        lots = (("a", 10 ** 12), ("b", 10 ** 12))
        one = tuple((10 ** 6 * at, 10 ** 9 - 10 ** 6 * at) for at in range(70))
        two = tuple((10 ** 6 * at + 5, 10 ** 9 - 10 ** 6 * at - 7) for at in range(70))
        for join in (either_of, both_of):
            found = join(lots, one, two)
            check_stair(lots, found)
            self.equal(join(lots, two, one), found)
            for member in one + two + found:
                held = (holds_at(one, member), holds_at(two, member))
                self.equal(holds_at(found, member), any(held) if join is either_of else all(held))

    def test_wrong_ones(self):
        for join in (either_of, both_of):
            self.refused(BadStair(0), join, LOTS, ((True, 0),), None)
            self.refused(BadStair(-1), join, LOTS, (), None)
            self.refused(BadStair(1), join, two=((1, 0), (1, 1)), one=(), lots=LOTS)
