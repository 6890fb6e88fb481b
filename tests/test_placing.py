"""[18], [20], (G1): crowds placed."""

import itertools
import random

from assentwhole.counting import below, least_common
from assentwhole.crowdjoins import all_houses, crowd_both, crowd_within, no_houses
from assentwhole.crowds import check_crowd, counts_of
from assentwhole.errors import BadCounts, BadCrowd
from assentwhole.placing import first_houses, place_two
from tests.samples import HUGE, LOTS, Checks, all_counts


class PlacingTests(Checks):
    def right(self, lots, one, two, fall):
        """place_two does what it should for these."""
        found = place_two(lots, one, two, fall)
        common = least_common(lots, one, two)
        if not below(lots, common, counts_of(lots, fall)):
            self.assertIsNone(found)
            return
        here, there = found
        self.equal((counts_of(lots, here), counts_of(lots, there)), (one, two))
        self.assertTrue(crowd_within(lots, crowd_both(lots, here, there), fall))
        for crowd in found:
            self.assertLessEqual(sum(len(spans) for spans in crowd), 200)

    def test_examples(self):
        here, there = place_two(LOTS, (2, 0), (2, 1), (((1, 2),), ()))
        self.equal(crowd_both(LOTS, here, there), (((1, 2),), ()))

    def test_first_houses(self):
        self.equal(first_houses(LOTS, (2, 1)), (((0, 2),), ((0, 1),)))
        self.equal(first_houses(LOTS, (0, 0)), ((), ()))
        self.equal(first_houses(lots=HUGE, counts=(10 ** 12, 0, 7)), (((0, 10 ** 12),), (), ((0, 7),)))
        for counts in all_counts(LOTS):
            self.equal(counts_of(LOTS, first_houses(LOTS, counts)), counts)

    def test_all_small_ones(self):
        lots = (("a", 4), ("b", 1))
        falls = [
            (a, b)
            for a in ((), ((0, 1),), ((3, 4),), ((1, 3),), ((0, 1), (2, 3)), ((0, 1), (3, 4)), ((0, 4),))
            for b in ((), ((0, 1),))
        ]
        for one, two in itertools.product(all_counts(lots), repeat=2):
            for fall in falls:
                self.right(lots, one, two, fall)
            self.assertIsNotNone(place_two(lots, one, two, all_houses(lots)))
            none = least_common(lots, one, two) == (0, 0)
            self.equal(place_two(lots, one, two, no_houses(lots)) is not None, none)

    def test_eight_great_lots_with_most_spans(self):
        lots = tuple((f"w{at}", 10 ** 12) for at in range(8))
        dice = random.Random(8)
        for _ in range(100):
            fall = []
            for many in (30, 20, 4, 2, 1, 1, 1, 1):
                ends = sorted(dice.sample(range(1, 5000), 2 * many))
                fall.append(tuple(zip(ends[::2], ends[1::2])))
            fall = tuple(fall)
            one = tuple(dice.randint(0, 10 ** 12) for _ in lots)
            extra = [dice.randint(0, number) for number in counts_of(lots, fall)]
            two = tuple(min(10 ** 12, 10 ** 12 - number + more) for number, more in zip(one, extra))
            self.assertIsNotNone(place_two(lots, one, two, fall))
            self.right(lots, one, two, fall)
            self.right(lots, two, one, fall)
            self.right(lots, one, first_more(two), fall)

    def test_wrong_ones(self):
        good = ((), ())
        self.refused(BadCounts(1), first_houses, LOTS, (3, 2))
        self.refused(BadCounts(-1), first_houses, LOTS, None)
        self.refused(BadCounts(0), place_two, LOTS, (4, 0), (True, 0), 5)
        self.refused(BadCounts(-1), place_two, LOTS, (3, 0), [3, 0], 5)
        self.refused(BadCrowd(-1), place_two, LOTS, (3, 0), (3, 0), 5)
        self.refused(BadCrowd(1), place_two, lots=LOTS, one=(3, 0), two=(3, 0), fall=((), ((0, 2),)))
        self.equal(check_crowd(LOTS, place_two(LOTS, (0, 0), (3, 1), good)[1]), 4)


def first_more(counts):
    """Counts with one house more of the first lot, if it has one."""
    return (min(10 ** 12, counts[0] + 1),) + counts[1:]
