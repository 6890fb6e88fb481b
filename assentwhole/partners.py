"""The partner of a stair for a wish."""

from assentwhole.clauses import clauses_stair
from assentwhole.countrules import is_below
from assentwhole.lots import sizes_of
from assentwhole.stairs import check_stair


def needed_with(sizes, member, wished):
    """The least counts that have the wished ones in common with member.

    There are some only where the wished ones are below member.
    """
    return tuple(
        wished[at] + size - member[at] if wished[at] > 0 else 0 for at, size in enumerate(sizes)
    )


def partner_clauses(sizes, one, wish):
    """For each member of one the least counts whose common with it is in wish."""
    return [[needed_with(sizes, member, low) for low in wish if is_below(low, member)] for member in one]


def partner_stair(sizes, one, wish):
    """The stair of the partner of what are known to be stairs."""
    return clauses_stair(len(sizes), partner_clauses(sizes, one, wish))


def partner_of(lots, one, wish):
    """The stair of the crowds whose common houses with each of one are in wish."""
    check_stair(lots, one)
    check_stair(lots, wish)
    return partner_stair(sizes_of(lots), one, wish)
