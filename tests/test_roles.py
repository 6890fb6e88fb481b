"""[36]: what a stair needs of each lot."""

from assentwhole.errors import BadStair
from assentwhole.roles import idle_lots, needed
from assentwhole.stairs import stair_holds
from tests.samples import LOTS, SMALL_LOTS, Checks, all_counts, all_stairs, sizes_of


class RoleTests(Checks):
    def test_some(self):
        self.equal(needed(LOTS, ((0, 1), (2, 0))), (0, 0))
        self.equal(needed(LOTS, ((1, 1), (2, 0))), (1, 0))
        self.equal(needed(LOTS, ((2, 1),)), (2, 1))
        self.equal(idle_lots(LOTS, ((0, 1), (2, 0))), ())
        self.equal(idle_lots(LOTS, ((2, 0),)), (1,))
        self.equal(idle_lots(LOTS, ((0, 1),)), (0,))

    def test_ends(self):
        self.equal(needed(LOTS, ()), (3, 1))
        self.equal(needed(lots=LOTS, stair=((0, 0),)), (0, 0))
        self.equal(idle_lots(LOTS, ()), (0, 1))
        self.equal(idle_lots(stair=((0, 0),), lots=LOTS), (0, 1))

    def test_by_all_counts(self):
        for lots in SMALL_LOTS:
            for stair in all_stairs(lots):
                there = [counts for counts in all_counts(lots) if stair_holds(lots, stair, counts)]
                wanted = tuple(min([counts[lot] for counts in there], default=size) for lot, (_, size) in enumerate(lots))
                self.equal(needed(lots, stair), wanted)
                without = []
                for lot in range(len(lots)):
                    bare = [counts[:lot] + (0,) + counts[lot + 1:] for counts in there]
                    if all(stair_holds(lots, stair, counts) for counts in bare):
                        without.append(lot)
                self.equal(idle_lots(lots, stair), tuple(without))
            self.equal(needed(lots, (sizes_of(lots),)), sizes_of(lots))

    def test_wrong_ones(self):
        for call in (needed, idle_lots):
            self.refused(BadStair(-1), call, LOTS, None)
            self.refused(BadStair(0), call, LOTS, ((False, 0),))
            self.refused(BadStair(1), call, stair=((0, 1), (1, 1)), lots=LOTS)
