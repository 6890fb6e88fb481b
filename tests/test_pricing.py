"""[35], [40]: the cheapest member."""

import random

from assentwhole.errors import BadStair, NotUsable
from assentwhole.pricing import cheapest
from assentwhole.stairs import stair_holds
from tests.samples import LOTS, SMALL_LOTS, Checks, all_counts, all_stairs


def price(counts, prices):
    return sum(number * each for number, each in zip(counts, prices))


class PricingTests(Checks):
    def test_examples(self):
        self.equal(cheapest(LOTS, ((0, 1), (2, 0)), (2, 5)), (4, (2, 0)))

    def test_first_of_several(self):
        self.equal(cheapest(LOTS, ((0, 1), (2, 0)), (2, 4)), (4, (0, 1)))
        self.equal(cheapest(LOTS, ((1, 1), (2, 0)), (1, 1)), (2, (1, 1)))
        self.equal(cheapest(LOTS, ((1, 1), (2, 0)), (0, 0)), (0, (1, 1)))

    def test_ends(self):
        self.equal(cheapest(LOTS, (), (1, 1)), None)
        self.equal(cheapest(prices=(1, 1), stair=((0, 0),), lots=LOTS), (0, (0, 0)))
        lots = (("a", 10 ** 12), ("b", 10 ** 12))
        self.equal(cheapest(lots, ((10 ** 12, 0),), (10 ** 6, 1)), (10 ** 18, (10 ** 12, 0)))

    def test_no_counts_cost_less(self):
        dice = random.Random(20)
        for lots in SMALL_LOTS:
            for stair in all_stairs(lots):
                prices = tuple(dice.randint(0, 4) for _ in lots)
                found = cheapest(lots, stair, prices)
                costs = [price(counts, prices) for counts in all_counts(lots) if stair_holds(lots, stair, counts)]
                if not stair:
                    self.assertIsNone(found)
                    continue
                self.equal(found[0], min(costs))
                self.equal(found[1], [m for m in stair if price(m, prices) == min(costs)][0])

    def test_wrong_ones(self):
        for prices in (None, (), (1,), (1, 1, 1), [1, 1], (1, -1), (True, 1), (1, None), (1, "1"), "ab", 5):
            self.refused(NotUsable("prices"), cheapest, LOTS, (), prices)
            self.refused(NotUsable("prices"), cheapest, LOTS, ((2, 0),), prices)
        self.refused(BadStair(-1), cheapest, LOTS, None, None)
        self.refused(BadStair(0), cheapest, LOTS, ((2, True),), (1, 1))
