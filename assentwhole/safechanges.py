"""Safe changes: from each charter to all that suit it."""

from assentwhole.errors import NotFor
from assentwhole.pactchecks import check_pact
from assentwhole.suiting import Suits
from assentwhole.wishes import wish_stair


def require_own(pact):
    """NotFor if the rule of the pact is not own."""
    if pact[2] != "own":
        raise NotFor("rule")


def suiting_rows(suits):
    """For each charter the ascending tuple of the others that suit it."""
    charters = list(range(suits.many))
    return tuple(tuple(two for two in charters if two != one and suits.suit(one, two)) for one in charters)


def safe_changes(pact, wish):
    """For each charter of a pact by own the ascending tuple of the other charters that suit it."""
    check_pact(pact)
    wished = wish_stair(pact[0], wish)
    require_own(pact)
    return suiting_rows(Suits(pact, wished))
