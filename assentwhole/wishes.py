"""Wishes, and trusts that are to be kept: checked, and their stairs."""

from assentwhole.errors import NotUsable
from assentwhole.holding import trust_holds
from assentwhole.lots import sizes_of
from assentwhole.stairmaking import stair_in
from assentwhole.trustchecks import check_trust


def require_some(lots, trust, word):
    """BadTrust if trust is none, NotUsable(word) if it holds at nobody."""
    check_trust(lots, trust)
    sizes = sizes_of(lots)
    if trust_holds(sizes, trust, (0,) * len(sizes)):
        raise NotUsable(word)


def require_keep(lots, keep):
    """BadTrust if keep is no trust, NotUsable if it holds at nobody, or not at everyone."""
    require_some(lots, keep, "keep")
    sizes = sizes_of(lots)
    if not trust_holds(sizes, keep, sizes):
        raise NotUsable("keep")


def wish_stair(lots, wish):
    """The stair of wish, a trust that does not hold at nobody."""
    require_some(lots, wish, "wish")
    return stair_in(sizes_of(lots), wish)


def keep_stair(lots, keep):
    """The stair of keep, a trust that holds at everyone and not at nobody."""
    require_keep(lots, keep)
    return stair_in(sizes_of(lots), keep)
