"""The common of two stairs, and of several."""

from assentwhole.countrules import common_counts
from assentwhole.errors import NotUsable
from assentwhole.lots import check_lots, sizes_of
from assentwhole.stairrules import are_stairs, least_members
from assentwhole.stairs import check_stair


def common_stair(sizes, one, two):
    """The stair of the common of two that are known to be stairs."""
    return least_members([common_counts(sizes, low, high) for low in one for high in two])


def common_of(lots, one, two):
    """The stair of the common of one and two."""
    check_stair(lots, one)
    check_stair(lots, two)
    return common_stair(sizes_of(lots), one, two)


def common_all(lots, stairs):
    """The stair of the common of all stairs, (everyone,) without any."""
    check_lots(lots)
    sizes = sizes_of(lots)
    if not are_stairs(sizes, stairs):
        raise NotUsable("stairs")
    found = (sizes,)
    for stair in stairs:
        found = common_stair(sizes, found, stair)
    return found
