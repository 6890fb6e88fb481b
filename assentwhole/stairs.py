"""Stairs: checked, made of trusts, asked, and made trusts."""

from assentwhole.counting import check_counts
from assentwhole.errors import BadStair
from assentwhole.lots import check_lots, sizes_of
from assentwhole.stairmaking import stair_in
from assentwhole.stairrules import is_raised, stair_fault
from assentwhole.trustchecks import check_trust


def check_stair(lots, thing):
    """How many members the stair thing has; BadStair if it is not a stair."""
    check_lots(lots)
    fault = stair_fault(sizes_of(lots), thing)
    if fault is not None:
        raise BadStair(fault)
    return len(thing)


def stair_of(lots, trust):
    """The stair of trust."""
    check_trust(lots, trust)
    return stair_in(sizes_of(lots), trust)


def stair_holds(lots, stair, counts):
    """Whether a member of stair is below counts."""
    check_stair(lots, stair)
    check_counts(lots, counts)
    return is_raised(stair, counts)


def trust_of(lots, stair):
    """The trust that holds where a member of stair is below the counts."""
    check_stair(lots, stair)
    return "least", stair
