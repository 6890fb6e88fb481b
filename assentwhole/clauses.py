"""Stairs of clauses: what is above at least one of each clause's counts."""

from assentwhole.countrules import joined_counts
from assentwhole.pointgrids import PointGrid
from assentwhole.stairmaking import least_points
from assentwhole.stairrules import is_raised, least_members

# On a grid with more points than this, sets of points are too long to be joined quickly.
MOST_POINTS = 300000


def columns_over(lots, rows):
    """For each of so many lots the ascending numbers that rows of counts have there, and 0."""
    return [sorted(set([0] + [row[at] for row in rows])) for at in range(lots)]


def points_in(columns):
    """How many points a grid of these columns has."""
    points = 1
    for column in columns:
        points *= len(column)
    return points


def stair_on_grid(columns, clauses):
    """The stair of clauses, by way of the grid of these columns."""
    grid = PointGrid(columns)
    points = grid.whole
    for clause in clauses:
        points &= least_points(grid, clause)
    return grid.lowest(points)


def stair_by_turns(lots, clauses):
    """The stair of clauses: one after another, each raises those that are not above it yet."""
    stair = ((0,) * lots,)
    for clause in clauses:
        kept = [member for member in stair if is_raised(clause, member)]
        rest = [member for member in stair if not is_raised(clause, member)]
        stair = least_members(kept + [joined_counts(member, low) for member in rest for low in clause])
    return stair


def clauses_stair(lots, clauses):
    """The stair of the counts, over so many lots, that are above at least one of each clause."""
    columns = columns_over(lots, [row for clause in clauses for row in clause])
    if points_in(columns) <= MOST_POINTS:
        return stair_on_grid(columns, clauses)
    return stair_by_turns(lots, clauses)
