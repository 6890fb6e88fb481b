"""The mirror of a stair, as a stair."""

from assentwhole.lots import sizes_of
from assentwhole.stairmaking import stair_in
from assentwhole.stairs import check_stair


def mirror_stair(lots, stair):
    """The stair of the crowds whose other houses are not in stair."""
    check_stair(lots, stair)
    return stair_in(sizes_of(lots), ("spare", stair))
