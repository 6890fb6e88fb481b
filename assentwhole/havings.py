"""What can be had: pacts whose splitters are within a wish, and that all crowds to be kept wake."""

from assentwhole.errors import NotUsable
from assentwhole.lots import check_lots, sizes_of
from assentwhole.orders import unmet_pair
from assentwhole.wishes import keep_stair, wish_stair


def can_be(lots, wish, keep):
    """Whether the common of keep with itself is within wish: whether a pact bears wish and keep's crowds wake it."""
    wished = wish_stair(lots, wish)
    kept = keep_stair(lots, keep)
    return unmet_pair(sizes_of(lots), kept, kept, wished) is None


def least_pact(lots, manner, wish, keep):
    """A pact of one row that has keep at each step, or None if none can be."""
    check_lots(lots)
    if manner not in ("plain", "sworn"):
        raise NotUsable("manner")
    if not can_be(lots, wish, keep):
        return None
    row = (keep, None, keep, keep, keep) if manner == "plain" else (keep, keep, keep, keep, None)
    return lots, manner, "own", ((row,),), ((),)
