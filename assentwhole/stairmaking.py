"""The stair of a trust, by way of the grid of its atoms."""

from assentwhole.grids import atoms_in, needs_of
from assentwhole.pointgrids import PointGrid


def columns_of(sizes, atoms):
    """For each lot the ascending numbers of its atoms, 0 first."""
    columns = [[0] for size in sizes]
    for lot, number in atoms:
        columns[lot].append(number)
    return columns


def least_points(grid, stair):
    """The points that some member of stair is below."""
    found = 0
    for member in stair:
        found |= grid.above(member)
    return found


def spare_points(grid, sizes, stair):
    """The points that leave some lot of each member of stair too few houses."""
    found = grid.whole
    for member in stair:
        some = 0
        for lot, number in needs_of(member):
            some |= grid.having(lot, sizes[lot] - number + 1)
        found &= some
    return found


def heavy_points(grid, bound, weights, sets):
    """The points that are in sets whose weights add up to at least bound."""
    sums = {0: grid.whole}
    for weight, points in zip(weights, sets):
        grown = {}
        for total, old in sums.items():
            raised = min(total + weight, bound)
            grown[raised] = grown.get(raised, 0) | (old & points)
            grown[total] = grown.get(total, 0) | (old & ~points)
        sums = {total: grown[total] for total in grown if grown[total]}
    return sums.get(bound, 0)


def trust_points(grid, sizes, trust):
    """The points of the grid of a trust at which it holds."""
    kind = trust[0]
    if kind == "lot":
        return grid.having(trust[1], trust[2])
    if kind == "least":
        return least_points(grid, trust[1])
    if kind == "spare":
        return spare_points(grid, sizes, trust[1])
    if kind == "any":
        sets = [trust_points(grid, sizes, part) for part in trust[2]]
        return heavy_points(grid, trust[1], [1 for part in sets], sets)
    sets = [trust_points(grid, sizes, part) for part in trust[3]]
    return heavy_points(grid, trust[1], trust[2], sets)


def stair_in(sizes, trust):
    """The stair of a trust that is known to be one."""
    if trust[0] == "least":
        return trust[1]
    grid = PointGrid(columns_of(sizes, atoms_in(sizes, trust)))
    return grid.lowest(trust_points(grid, sizes, trust))
