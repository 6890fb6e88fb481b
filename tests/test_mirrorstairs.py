"""[5], [33], [40]: mirrors of stairs."""

from assentwhole.errors import BadStair
from assentwhole.mirrors import mirror_of
from assentwhole.mirrorstairs import mirror_stair
from assentwhole.partners import partner_of
from assentwhole.stairs import check_stair, stair_of
from tests.samples import LOTS, SMALL_LOTS, Checks, Houses, all_stairs, some_trusts


class MirrorStairTests(Checks):
    def test_examples(self):
        self.equal(mirror_stair(LOTS, ((2, 1),)), ((0, 1), (2, 0)))

    def test_ends(self):
        self.equal(mirror_stair(LOTS, ()), ((0, 0),))
        self.equal(mirror_stair(lots=LOTS, stair=((0, 0),)), ())
        self.equal(mirror_stair(LOTS, ((3, 1),)), ((0, 1), (1, 0)))

    def test_by_all_crowds(self):
        for lots in SMALL_LOTS:
            houses = Houses(lots)
            ones = tuple(tuple(int(at == lot) for at in range(len(lots))) for lot in range(len(lots)))[::-1]
            for stair in all_stairs(lots):
                there = houses.within_stair(stair)
                wanted = houses.stair({crowd for crowd in houses.crowds if houses.others(crowd) not in there})
                self.equal(mirror_stair(lots, stair), wanted)
                self.equal(mirror_stair(lots, wanted), stair)
                self.equal(partner_of(lots, stair, ones), wanted)

    def test_mirrors_of_trusts(self):
        for trust in some_trusts(LOTS, 150, seed=19):
            self.equal(mirror_stair(LOTS, stair_of(LOTS, trust)), stair_of(LOTS, mirror_of(LOTS, trust)))

    def test_great_ones(self):
        big = 10 ** 12
        lots = (("a", big), ("b", big), ("c", big))
        stair = tuple(sorted(
            (big // 10 * a, big // 10 * b, big // 10 * c)
            for a in range(10) for b in range(10) for c in range(10) if a + b + c == 13
        ))
        self.assertGreater(len(stair), 65)
        mirror = mirror_stair(lots, stair)
        check_stair(lots, mirror)
        self.equal(mirror_stair(lots, mirror), stair)

    def test_wrong_ones(self):
        self.refused(BadStair(-1), mirror_stair, LOTS, None)
        self.refused(BadStair(0), mirror_stair, LOTS, ((True, 0),))
        self.refused(BadStair(1), mirror_stair, stair=((0, 1), (1, 1)), lots=LOTS)
