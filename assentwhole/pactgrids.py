"""The trusts of a pact as sets of points on one grid, where either and both are | and &."""

from assentwhole.comings import reached_from
from assentwhole.grids import atoms_in
from assentwhole.lots import sizes_of
from assentwhole.pactparts import kinds_in, steps_in, trust_at
from assentwhole.pointgrids import PointGrid
from assentwhole.stairmaking import columns_of, trust_points


def pact_trusts(pact):
    """All trusts of the rows of a pact."""
    return [trust for charter in pact[3] for row in charter for trust in row if trust is not None]


def pact_atoms(pact):
    """The ascending atoms of all trusts of a pact."""
    sizes = sizes_of(pact[0])
    found = {}
    for trust in pact_trusts(pact):
        for atom in atoms_in(sizes, trust):
            found[atom] = True
    return sorted(found)


class PactGrid:
    """The grid of all atoms of one pact; a set of its points is an integer."""

    def __init__(self, pact):
        self.base_pact = pact
        self.sizes = sizes_of(pact[0])
        self.grid = PointGrid(columns_of(self.sizes, pact_atoms(pact)))
        self.kinds = list(range(kinds_in(pact)))
        self.changes = pact[4]
        self.come = reached_from(pact[4], 0)
        self.made = {}

    def step(self, step, charter, kind):
        """The points at which this trust of the pact holds."""
        place = (step, charter, kind)
        if place not in self.made:
            trust = trust_at(self.base_pact, step, charter, kind)
            self.made[place] = trust_points(self.grid, self.sizes, trust)
        return self.made[place]

    def begin(self, charter, kind):
        """The points in ask, in a sworn pact also in echo."""
        points = self.step("ask", charter, kind)
        if "echo" in steps_in(self.base_pact):
            points &= self.step("echo", charter, kind)
        return points

    def enough(self, charter, kind):
        """The points in begin and in vote."""
        return self.begin(charter, kind) & self.step("vote", charter, kind)

    def begin_some(self, charter):
        """Either of begin, over all kinds."""
        return joined_points([self.begin(charter, kind) for kind in self.kinds])

    def enough_some(self, charter):
        """Either of enough, over all kinds."""
        return joined_points([self.enough(charter, kind) for kind in self.kinds])

    def shared(self, sets):
        """The points that are in all of sets, all points for none."""
        points = self.grid.whole
        for one in sets:
            points &= one
        return points

    def stair(self, points):
        """The stair of a set of points that has with each point all above it."""
        return self.grid.lowest(points)


def joined_points(sets):
    """The points that are in at least one of sets."""
    points = 0
    for one in sets:
        points |= one
    return points
