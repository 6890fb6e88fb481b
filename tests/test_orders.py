"""[5], [34], [40]: order, and what meets."""

import itertools

from assentwhole.commons import common_of
from assentwhole.errors import BadStair
from assentwhole.orders import first_unmet, meets, within
from tests.samples import LOTS, SMALL_LOTS, Checks, Houses, all_stairs, sizes_of, under


class OrderTests(Checks):
    def test_examples(self):
        found = first_unmet(LOTS, ((0, 1), (2, 0)), ((0, 1), (2, 0)), ((0, 1), (1, 0)))
        self.equal(found, ((0, 1), (2, 0)))

    def test_within_by_all_crowds(self):
        for lots in SMALL_LOTS:
            houses = Houses(lots)
            every = all_stairs(lots)
            crowds = {stair: houses.within_stair(stair) for stair in every}
            for one, two in itertools.product(every, repeat=2):
                self.equal(within(lots, one, two), crowds[one] <= crowds[two])

    def test_meets_by_all_crowds(self):
        for lots in ((("a", 4),), (("a", 2), ("b", 1)), (("a", 3), ("b", 1))):
            houses = Houses(lots)
            every = all_stairs(lots)
            crowds = {stair: houses.within_stair(stair) for stair in every}
            for one, two in itertools.product(every, repeat=2):
                shared = {here & there for here in crowds[one] for there in crowds[two]}
                for wish in every:
                    met = shared <= crowds[wish]
                    self.equal(meets(lots, one, two, wish), met)
                    self.equal(first_unmet(lots, one, two, wish) is None, met)
                    self.equal(within(lots, common_of(lots, one, two), wish), met)

    def test_first_unmet_is_the_first(self):
        for lots in SMALL_LOTS[2:5]:
            sizes = sizes_of(lots)
            every = all_stairs(lots)
            for one, two, wish in itertools.product(every[::2], every[1::2], every[::3]):
                wanted = None
                for x, y in itertools.product(one, two):
                    least = tuple(max(0, a + b - size) for a, b, size in zip(x, y, sizes))
                    if wanted is None and not any(under(member, least) for member in wish):
                        wanted = (x, y)
                self.equal(first_unmet(lots, one, two, wish), wanted)

    def test_ends(self):
        some = ((0, 1), (2, 0))
        self.equal(within(LOTS, (), ()), True)
        self.equal(within(LOTS, some, ()), False)
        self.equal(within(two=((0, 0),), one=some, lots=LOTS), True)
        self.equal(meets(LOTS, (), some, ()), True)
        self.equal(meets(LOTS, some, (), ()), True)
        self.equal(meets(wish=(), two=some, one=some, lots=LOTS), False)
        self.equal(first_unmet(LOTS, some, some, ()), ((0, 1), (0, 1)))

    def test_greatest_product(self):
        lots = (("a", 10 ** 12), ("b", 10 ** 12))
        one = tuple((at, 10 ** 12 - at) for at in range(70))
        wish = tuple((at, 10 ** 12 - 200 + at) for at in range(1)) + ((1, 10 ** 12 - 300),)
        self.equal(first_unmet(lots, one, one, wish), None)
        self.equal(first_unmet(lots, one, one, ((0, 10 ** 12 - 137),)), ((69, 10 ** 12 - 69), (69, 10 ** 12 - 69)))

    def test_wrong_ones(self):
        some = ((0, 1), (2, 0))
        self.refused(BadStair(1), within, LOTS, ((0, 1), (0, 1)), None)
        self.refused(BadStair(-1), within, LOTS, some, None)
        for call in (meets, first_unmet):
            self.refused(BadStair(0), call, LOTS, ((0, True),), None, None)
            self.refused(BadStair(-1), call, LOTS, some, [], ((9, 9),))
            self.refused(BadStair(0), call, LOTS, some, some, ((9, 9),))
            self.refused(BadStair(-1), call, wish=None, two=some, one=some, lots=LOTS)
