"""[24], [27]: atoms and grids."""

import itertools

from assentwhole.errors import BadTrust
from assentwhole.grids import atoms_of, grid_of
from tests.samples import BOTH, HUGE, LOTS, SMALL_LOTS, TWO, Checks, all_counts, some_trusts, told_holds


class GridTests(Checks):
    def test_examples(self):
        self.equal(atoms_of(LOTS, ("spare", ((0, 1), (3, 0)))), ((0, 1), (1, 1)))
        self.equal(grid_of(LOTS, BOTH), 4)

    def test_each_kind(self):
        for trust, atoms in (
            (("lot", 0, 0), ()),
            (("lot", 0, 1), ((0, 1),)),
            (("lot", 0, 3), ((0, 3),)),
            (("lot", 0, 4), ()),
            (("least", ((0, 1), (2, 0))), ((0, 2), (1, 1))),
            (("least", ((0, 0),)), ()),
            (("spare", ((1, 1), (2, 0))), ((0, 2), (0, 3), (1, 1))),
            (("spare", ((0, 0),)), ()),
            (("any", 1, (TWO, ("lot", 0, 1), TWO)), ((0, 1), (0, 2))),
            (("heavy", 0, (0, 0), (TWO, ("least", ((3, 1),)))), ((0, 2), (0, 3), (1, 1))),
            (("any", 0, ()), ()),
        ):
            self.equal(atoms_of(lots=LOTS, trust=trust), atoms)

    def test_grids(self):
        self.equal(grid_of(LOTS, ("any", 0, ())), 1)
        self.equal(grid_of(lots=LOTS, trust=("any", 1, (TWO, ("lot", 0, 1), ("lot", 1, 1)))), 6)
        self.equal(grid_of(HUGE, ("least", ((1, 1, 0), (2, 0, 5), (10 ** 12, 0, 0)))), 4 * 2 * 2)
        self.equal(atoms_of(HUGE, ("spare", ((10 ** 12, 0, 1),))), ((0, 1), (2, 1000)))

    def test_grid_is_the_product_over_the_lots(self):
        for lots in SMALL_LOTS:
            for trust in some_trusts(lots, 60, seed=6):
                atoms = atoms_of(lots, trust)
                self.equal(atoms, tuple(sorted(set(atoms))))
                wanted = 1
                for lot in range(len(lots)):
                    wanted *= 1 + sum(1 for atom in atoms if atom[0] == lot)
                self.equal(grid_of(lots, trust), wanted)

    def test_counts_that_reach_the_same_atoms(self):
        for trust in some_trusts(LOTS, 120, seed=7):
            atoms = atoms_of(LOTS, trust)
            for one, two in itertools.product(all_counts(LOTS), repeat=2):
                if all((one[lot] >= k) == (two[lot] >= k) for lot, k in atoms):
                    self.equal(told_holds(LOTS, trust, one), told_holds(LOTS, trust, two))

    def test_wrong_ones(self):
        for call in (atoms_of, grid_of):
            self.refused(BadTrust(0, "shape"), call, LOTS, ("lot", 0))
            self.refused(BadTrust(0, "stair"), call, LOTS, ("least", ((1, True),)))
            self.refused(BadTrust(2, "lot"), call, trust=("any", 1, (TWO, ("lot", False, 1))), lots=LOTS)
