"""[5], [31], [40], (G1): commons."""

import itertools
import random

from assentwhole.commons import common_all, common_of
from assentwhole.errors import BadStair, NotUsable
from assentwhole.stairjoins import either_of
from assentwhole.stairs import check_stair
from tests.samples import LOTS, SMALL_LOTS, Checks, Houses, all_stairs, sizes_of


class CommonTests(Checks):
    def test_examples(self):
        self.equal(common_of(LOTS, ((2, 0),), ((0, 1), (2, 0))), ((0, 0),))
        self.equal(common_of(LOTS, ((2, 0),), ((2, 0),)), ((1, 0),))

    def test_all_pairs_of_crowds(self):
        for lots in SMALL_LOTS[:6]:
            houses = Houses(lots)
            every = all_stairs(lots)
            crowds = {stair: houses.within_stair(stair) for stair in every}
            for one, two in itertools.combinations_with_replacement(every, 2):
                shared = {here & there for here in crowds[one] for there in crowds[two]}
                above = {crowd for crowd in houses.crowds if any(part & crowd == part for part in shared)}
                wanted = houses.stair(above)
                self.assertIsNotNone(wanted)
                self.equal(common_of(lots, one, two), wanted)
                self.equal(common_of(lots, two, one), wanted)

    def test_ends(self):
        some = ((0, 1), (2, 0))
        self.equal(common_of(LOTS, (), some), ())
        self.equal(common_of(LOTS, some, ()), ())
        self.equal(common_of(LOTS, (), ()), ())
        self.equal(common_of(LOTS, some, ((3, 1),)), some)
        self.equal(common_of(two=some, one=((0, 0),), lots=LOTS), ((0, 0),))

    def test_laws(self):
        for lots in (LOTS, (("a", 1), ("b", 1), ("c", 1))):
            every = all_stairs(lots)
            for one, two, three in itertools.product(every[::3], every[::2], every):
                either = common_of(lots, one, either_of(lots, two, three))
                self.equal(either, either_of(lots, common_of(lots, one, two), common_of(lots, one, three)))

    def test_common_all(self):
        one, two = ((0, 1), (2, 0)), ((1, 1), (3, 0))
        self.equal(common_all(LOTS, ()), ((3, 1),))
        self.equal(common_all(LOTS, (one,)), one)
        self.equal(common_all(LOTS, ((),)), ())
        self.equal(common_all(LOTS, (one, two)), common_of(LOTS, one, two))
        self.equal(common_all(LOTS, (one, (), two)), ())
        self.equal(common_all(stairs=(two, two, two), lots=LOTS), common_of(LOTS, common_of(LOTS, two, two), two))
        dice = random.Random(18)
        for lots in SMALL_LOTS:
            every = all_stairs(lots)
            for _ in range(30):
                stairs = tuple(dice.choice(every) for _ in range(3))
                wanted = common_of(lots, common_of(lots, stairs[0], stairs[1]), stairs[2])
                for row in itertools.permutations(stairs):
                    self.equal(common_all(lots, row), wanted)
                self.equal(common_all(lots, stairs + ((sizes_of(lots),),)), wanted)

    def test_greatest_products(self):
        big = 10 ** 12
        lots = (("a", big), ("b", big), ("c", big))
        rows = [
            tuple((big - 1000 * at * at - k, big // 2 + 900 * at * at, big - 31 * ((at * 13 + k) % 70)) for at in range(70))
            for k in range(2)
        ]
        one, two = (tuple(sorted(row)) for row in rows)
        found = common_of(lots, one, two)
        check_stair(lots, found)
        self.assertGreater(len(found), 70)
        self.equal(common_of(lots, two, one), found)
        few = tuple(row[:16] for row in (one[::4], two[::4], one[1::4]))
        found = common_all(lots, few)
        check_stair(lots, found)
        self.equal(common_all(lots, few[::-1]), found)

    def test_wrong_ones(self):
        self.refused(BadStair(0), common_of, LOTS, ((4, 0),), None)
        self.refused(BadStair(-1), common_of, LOTS, (), None)
        for stairs in (None, [], (None,), ((), [()]), (((0, 1), (2, 1)),), ((0, 1),), "", 5, (((0, True),),)):
            self.refused(NotUsable("stairs"), common_all, LOTS, stairs)
