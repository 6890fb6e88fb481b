"""Routes from a lone charter to another, each charter suiting the one ahead of it."""

from assentwhole.comings import path_between
from assentwhole.joints import require_other
from assentwhole.pactchecks import check_pact
from assentwhole.pactparts import require_charter
from assentwhole.safechanges import require_own, suiting_rows
from assentwhole.suiting import Suits
from assentwhole.wishes import wish_stair


def lone_changes(suits):
    """For each charter the other lone ones that suit it."""
    lone = suits.lone()
    return tuple(tuple(other for other in row if other in lone) for row in suiting_rows(suits))


def route_of(pact, wish, charter, other):
    """The shortest route of lone charters from charter to other, the first of several, or None."""
    check_pact(pact)
    wished = wish_stair(pact[0], wish)
    require_charter(pact, charter, "charter")
    require_charter(pact, other, "other")
    require_own(pact)
    suits = Suits(pact, wished)
    if not suits.suit(charter, charter):
        return None
    way = path_between(lone_changes(suits), charter, other)
    return None if way is None else (charter,) + tuple(way)


def two_steps(pact, wish, charter, other):
    """How many changes lead from charter to other, at most by a joined one: 1 or 2; None if one is not lone."""
    check_pact(pact)
    wished = wish_stair(pact[0], wish)
    require_other(pact, charter, other)
    require_own(pact)
    suits = Suits(pact, wished)
    if not suits.suit(charter, charter) or not suits.suit(other, other):
        return None
    return 1 if suits.suit(charter, other) else 2
