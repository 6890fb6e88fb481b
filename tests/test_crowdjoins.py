"""[17], [20]: crowds joined."""

import itertools
import random

from assentwhole.counting import below, least_common
from assentwhole.crowdjoins import all_houses, crowd_both, crowd_either, crowd_less, crowd_within, no_houses
from assentwhole.crowds import check_crowd, counts_of, crowd_of
from assentwhole.errors import BadCrowd
from tests.samples import HUGE, LOTS, Checks


def crowd_with(lots, houses):
    return crowd_of(lots, tuple((lot, number, number + 1) for lot, number in houses))


class CrowdJoinTests(Checks):
    def test_examples(self):
        self.equal(crowd_less(LOTS, all_houses(LOTS), (((1, 2),), ())), (((0, 1), (2, 3)), ((0, 1),)))

    def test_ends(self):
        self.equal(all_houses(LOTS), (((0, 3),), ((0, 1),)))
        self.equal(no_houses(lots=LOTS), ((), ()))
        self.equal(all_houses(HUGE)[0], ((0, 10 ** 12),))

    def test_all_pairs_of_small_crowds(self):
        lots = (("a", 3), ("b", 2))
        houses = [(0, 0), (0, 1), (0, 2), (1, 0), (1, 1)]
        every = [set(row) for many in range(6) for row in itertools.combinations(houses, many)]
        for one, two in itertools.product(every, repeat=2):
            here, there = crowd_with(lots, one), crowd_with(lots, two)
            self.equal(crowd_either(lots, here, there), crowd_with(lots, one | two))
            self.equal(crowd_both(lots, here, there), crowd_with(lots, one & two))
            self.equal(crowd_less(lots, here, there), crowd_with(lots, one - two))
            self.equal(crowd_within(lots, here, there), one <= two)

    def test_consequences_of_great_crowds(self):
        dice = random.Random(5)
        for _ in range(200):
            pair = []
            for _ in range(2):
                ends = sorted(dice.sample(range(10 ** 12), 2 * dice.randint(1, 60)))
                pieces = [(0, first, end) for first, end in zip(ends[::2], ends[1::2])]
                pieces.append((2, 0, dice.randint(1, 1000)))
                pair.append(crowd_of(HUGE, tuple(pieces)))
            one, two = pair
            either, both = crowd_either(HUGE, one, two), crowd_both(HUGE, one, two)
            less = crowd_less(HUGE, one, two)
            for crowd in (either, both, less):
                check_crowd(HUGE, crowd)
            sums = [tuple(map(sum, zip(counts_of(HUGE, a), counts_of(HUGE, b)))) for a, b in ((one, two), (either, both))]
            self.equal(sums[0], sums[1])
            common = least_common(HUGE, counts_of(HUGE, one), counts_of(HUGE, two))
            self.equal(below(HUGE, common, counts_of(HUGE, both)), True)
            self.equal(crowd_within(HUGE, one, two), less == no_houses(HUGE))
            self.equal(crowd_within(HUGE, both, one), True)
            self.equal(crowd_either(HUGE, less, both), one)
            self.equal(crowd_both(HUGE, less, two), no_houses(HUGE))

    def test_most_spans(self):
        one = (tuple((4 * at, 4 * at + 2) for at in range(200)), (), ())
        two = (tuple((4 * at + 1, 4 * at + 3) for at in range(200)), (), ())
        self.equal(counts_of(HUGE, crowd_either(HUGE, one, two)), (600, 0, 0))
        self.equal(counts_of(HUGE, crowd_both(HUGE, one, two)), (200, 0, 0))
        self.equal(len(crowd_less(HUGE, one, two)[0]), 200)

    def test_wrong_crowds(self):
        good = ((), ())
        for call in (crowd_either, crowd_both, crowd_less, crowd_within):
            self.refused(BadCrowd(-1), call, LOTS, None, (1, 1))
            self.refused(BadCrowd(1), call, LOTS, ((), 5), ((), ()))
            self.refused(BadCrowd(0), call, LOTS, good, (5, ()))
            self.refused(BadCrowd(0), call, two=([], ()), one=good, lots=LOTS)
