"""[32], [81], [82]: stairs of clauses, on a grid and by turns alike, and where no grid is small enough."""

import random
import time

from assentwhole.clauses import clauses_stair, columns_over, points_in, stair_by_turns, stair_on_grid
from assentwhole.countrules import common_counts
from assentwhole.partners import partner_of
from tests.samples import SMALL_LOTS, Checks, random_stair, told_stair, under


class ClauseTests(Checks):
    def test_small_ones_against_all_counts(self):
        dice = random.Random(32)
        for lots in SMALL_LOTS:
            for _ in range(40):
                clauses = [list(random_stair(dice, lots, 3)) for _ in range(dice.randint(0, 4))]
                told = told_stair(lots, lambda x: all(any(under(low, x) for low in clause) for clause in clauses))
                self.equal(clauses_stair(len(lots), clauses), told)
                self.equal(stair_by_turns(len(lots), clauses), told)
                self.equal(stair_on_grid(columns_over(len(lots), [row for clause in clauses for row in clause]), clauses), told)

    def test_where_no_grid_is_small_enough(self):
        # A hundred numbers for each of four lots: their grid has 10 ** 8 points.
        size = 10 ** 12
        lots = tuple((f"l{at}", size) for at in range(4))
        one = tuple((size - 7 * n * n, size - 9 * (30 - n) ** 2, size - 5 * n, size) for n in range(1, 30))
        wish = tuple(sorted((10 ** 6 * n, 10 ** 6 * (9 - n), 10 ** 7 + n * n % 7, 10 ** 5) for n in range(1, 9)))
        needed = [[tuple(w + size - m if w else 0 for w, m in zip(low, member)) for low in wish] for member in one]
        rows = [row for clause in needed for row in clause]
        self.assertGreater(points_in(columns_over(4, rows)), 10 ** 7)
        start = time.process_time()
        found = partner_of(lots, tuple(sorted(one)), wish)
        self.assertLess(time.process_time() - start, 20)
        self.assertGreater(len(found), 5)
        sizes = (size,) * 4
        for counts in found:
            self.equal(self.is_met(sizes, one, wish, counts), True)
            for lot, number in enumerate(counts):
                if number > 0:
                    less = counts[:lot] + (number - 1,) + counts[lot + 1:]
                    self.equal(self.is_met(sizes, one, wish, less), False)
        for at, counts in enumerate(found):
            self.equal([other for other in found if other != counts and under(other, counts)], [])
            self.equal(at == 0 or found[at - 1] < counts, True)
        dice = random.Random(33)
        for _ in range(2000):
            counts = tuple(max(column) for column in zip(*[dice.choice(clause) for clause in dice.sample(needed, dice.randint(1, len(needed)))]))
            self.equal(any(under(low, counts) for low in found), self.is_met(sizes, one, wish, counts))

    def is_met(self, sizes, one, wish, counts):
        return all(any(under(low, common_counts(sizes, member, counts)) for low in wish) for member in one)
