"""The partner of a stair for a wish."""

from assentwhole.countrules import is_below
from assentwhole.lots import sizes_of
from assentwhole.pointgrids import PointGrid
from assentwhole.stairmaking import least_points
from assentwhole.stairs import check_stair


def needed_with(sizes, member, wished):
    """The least counts that have the wished ones in common with member.

    There are some only where the wished ones are below member.
    """
    return tuple(
        wished[at] + size - member[at] if wished[at] > 0 else 0 for at, size in enumerate(sizes)
    )


def columns_over(sizes, rows):
    """For each lot the ascending numbers that rows of counts have there, and 0."""
    return [sorted(set([0] + [row[at] for row in rows])) for at in range(len(sizes))]


def partner_stair(sizes, one, wish):
    """The stair of the partner of what are known to be stairs."""
    stairs = [[needed_with(sizes, member, low) for low in wish if is_below(low, member)] for member in one]
    grid = PointGrid(columns_over(sizes, [row for stair in stairs for row in stair]))
    points = grid.whole
    for stair in stairs:
        points &= least_points(grid, stair)
    return grid.lowest(points)


def partner_of(lots, one, wish):
    """The stair of the crowds whose common houses with each of one are in wish."""
    check_stair(lots, one)
    check_stair(lots, wish)
    return partner_stair(sizes_of(lots), one, wish)
