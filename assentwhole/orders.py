"""Stairs compared: one within another, two that meet for a wish."""

from assentwhole.countrules import common_counts
from assentwhole.lots import sizes_of
from assentwhole.stairrules import is_raised
from assentwhole.stairs import check_stair


def is_within(one, two):
    """Whether one is within two, both known to be stairs."""
    return all(is_raised(two, member) for member in one)


def unmet_pair(sizes, one, two, wish):
    """The first members of one and two that do not meet for wish, or None."""
    for here in one:
        for there in two:
            if not is_raised(wish, common_counts(sizes, here, there)):
                return here, there
    return None


def within(lots, one, two):
    """Whether each crowd in one is in two."""
    check_stair(lots, one)
    check_stair(lots, two)
    return is_within(one, two)


def first_unmet(lots, one, two, wish):
    """The first members whose least common counts are not in wish, or None."""
    check_stair(lots, one)
    check_stair(lots, two)
    check_stair(lots, wish)
    return unmet_pair(sizes_of(lots), one, two, wish)


def meets(lots, one, two, wish):
    """Whether the common houses of each in one with each in two are in wish."""
    return first_unmet(lots, one, two, wish) is None
