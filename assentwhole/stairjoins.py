"""Either and both of two stairs."""

from assentwhole.countrules import joined_counts
from assentwhole.stairrules import least_members
from assentwhole.stairs import check_stair


def either_stair(one, two):
    """The stair of either of two that are known to be stairs."""
    return least_members(one + two)


def both_stair(one, two):
    """The stair of both of two that are known to be stairs."""
    return least_members([joined_counts(low, high) for low in one for high in two])


def either_of(lots, one, two):
    """The stair of the crowds that are in one or in two."""
    check_stair(lots, one)
    check_stair(lots, two)
    return either_stair(one, two)


def both_of(lots, one, two):
    """The stair of the crowds that are in one and in two."""
    check_stair(lots, one)
    check_stair(lots, two)
    return both_stair(one, two)
