"""[3], [15], (G1): counts."""

import itertools

from assentwhole.counting import below, check_counts, least_common, outside
from assentwhole.errors import BadCounts
from tests.samples import HUGE, LOTS, SMALL_LOTS, Checks, Houses, all_counts


class CountingTests(Checks):
    def test_examples(self):
        self.equal((below(LOTS, (2, 0), (2, 1)), below(LOTS, (2, 1), (3, 0))), (True, False))
        self.equal((least_common(LOTS, (2, 0), (2, 1)), outside(LOTS, (2, 0))), ((1, 0), (1, 1)))
        self.refused(BadCounts(0), check_counts, LOTS, (True, 4))

    def test_sums(self):
        self.equal(check_counts(LOTS, (0, 0)), 0)
        self.equal(check_counts(LOTS, (3, 1)), 4)
        self.equal(check_counts(lots=HUGE, thing=(10 ** 12, 1, 999)), 10 ** 12 + 1000)

    def test_shape(self):
        for thing in (None, (), (1,), (1, 1, 1), [1, 1], "ab", 5, True, ((1, 1),)):
            self.refused(BadCounts(-1), check_counts, LOTS, thing)

    def test_numbers(self):
        for number in (-1, 4, True, False, None, "1", (1,), 10 ** 60):
            self.refused(BadCounts(0), check_counts, LOTS, (number, 5))
        for number in (-1, 2, True, False, None, "1"):
            self.refused(BadCounts(1), check_counts, LOTS, (3, number))
        self.refused(BadCounts(0), check_counts, HUGE, (10 ** 12 + 1, 0, 0))

    def test_below_is_number_by_number(self):
        for one, two in itertools.product(all_counts(LOTS), repeat=2):
            self.equal(below(LOTS, one, two), one[0] <= two[0] and one[1] <= two[1])
        self.equal(below(HUGE, (10 ** 12, 0, 0), (10 ** 12, 1, 0)), True)
        self.equal(below(two=(1, 1), one=(1, 1), lots=LOTS), True)

    def test_outside(self):
        self.equal(outside(HUGE, (1, 1, 0)), (10 ** 12 - 1, 0, 1000))
        for counts in all_counts(LOTS):
            self.equal(outside(LOTS, outside(LOTS, counts)), counts)

    def test_least_common_by_all_crowds(self):
        for lots in SMALL_LOTS:
            houses = Houses(lots)
            least = {}
            for one, two in itertools.product(houses.crowds, repeat=2):
                key = houses.counts[one], houses.counts[two]
                shared = houses.counts[one & two]
                least[key] = tuple(map(min, least.get(key, shared), shared))
            for (one, two), wanted in least.items():
                self.equal(least_common(lots, one, two), wanted)

    def test_least_common_of_great_lots(self):
        self.equal(least_common(HUGE, (10 ** 12 - 1, 1, 600), (2, 0, 600)), (1, 0, 200))
