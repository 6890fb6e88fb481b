"""[5], [32], [40], (G3): partners."""

import itertools
import random

from assentwhole.commons import common_of
from assentwhole.errors import BadStair
from assentwhole.orders import meets, within
from assentwhole.partners import partner_of
from assentwhole.stairs import check_stair
from tests.samples import LOTS, SMALL_LOTS, Checks, Houses, all_stairs


class PartnerTests(Checks):
    def test_examples(self):
        self.equal(partner_of(LOTS, ((2, 0),), ((1, 0),)), ((2, 0),))

    def test_all_pairs_of_crowds(self):
        for lots in SMALL_LOTS[:6]:
            houses = Houses(lots)
            every = all_stairs(lots)
            crowds = {stair: houses.within_stair(stair) for stair in every}
            for one, wish in itertools.product(every, repeat=2):
                wished = crowds[wish]
                partner = {
                    crowd for crowd in houses.crowds if all(crowd & other in wished for other in crowds[one])
                }
                wanted = houses.stair(partner)
                self.assertIsNotNone(wanted)
                self.equal(partner_of(lots, one, wish), wanted)

    def test_ends(self):
        some = ((0, 1), (2, 0))
        self.equal(partner_of(LOTS, (), some), ((0, 0),))
        self.equal(partner_of(LOTS, (), ()), ((0, 0),))
        self.equal(partner_of(LOTS, some, ()), ())
        self.equal(partner_of(LOTS, some, ((0, 0),)), ((0, 0),))
        self.equal(partner_of(LOTS, ((3, 1),), some), some)
        self.equal(partner_of(wish=((1, 0),), one=((0, 0),), lots=LOTS), ())

    def test_laws(self):
        for lots in (LOTS, (("a", 1), ("b", 1), ("c", 1))):
            every = all_stairs(lots)
            for one, two, wish in itertools.product(every, every, every[::2]):
                partner = partner_of(lots, two, wish)
                self.equal(within(lots, one, partner), meets(lots, one, two, wish))
                self.equal(within(lots, one, partner), within(lots, common_of(lots, one, two), wish))
                self.equal(
                    partner_of(lots, common_of(lots, one, two), wish), partner_of(lots, one, partner_of(lots, two, wish))
                )
                back = partner_of(lots, partner, wish)
                self.equal(partner_of(lots, back, wish), partner)

    def test_greatest_ones(self):
        big = 10 ** 12
        for many in (2, 3):
            lots = tuple((f"w{at}", big) for at in range(many))
            dice = random.Random(many)
            numbers = [[dice.randrange(big) for _ in range(30 if many == 2 else 9)] for _ in lots]
            stairs = []
            for target in (32, 31):
                found = []
                for _ in range(4000):
                    row = tuple(dice.choice(column) for column in numbers)
                    if len(found) < target and not any(
                        all(a <= b for a, b in zip(x, y)) for o in found for x, y in ((o, row), (row, o))
                    ):
                        found.append(row)
                stairs.append(tuple(sorted(found)))
            one, wish = stairs
            partner = partner_of(lots, one, wish)
            check_stair(lots, partner)
            self.assertTrue(meets(lots, partner, one, wish))
            for member in partner:
                for lot in range(many):
                    if member[lot] > 0:
                        less = member[:lot] + (member[lot] - 1,) + member[lot + 1:]
                        self.assertFalse(meets(lots, (less,), one, wish))

    def test_wrong_ones(self):
        self.refused(BadStair(0), partner_of, LOTS, ((4, 0),), None)
        self.refused(BadStair(-1), partner_of, LOTS, (), [])
        self.refused(BadStair(1), partner_of, wish=((0, 1), (0, 1)), one=(), lots=LOTS)
