"""Whether a pact bears a wish, and where it does not."""

from assentwhole.entrylists import couple_of, entries_in
from assentwhole.orders import unmet_pair
from assentwhole.pactchecks import check_pact
from assentwhole.pactstairs import PactStairs
from assentwhole.wishes import wish_stair


def breach_of(pact, wish):
    """The first entry whose trusts do not meet for the stair wish, and the members that tell so; or None."""
    stairs = PactStairs(pact)
    for entry in entries_in(pact):
        one, two = couple_of(stairs, entry)
        pair = unmet_pair(stairs.sizes, one, two, wish)
        if pair is not None:
            return entry, pair[0], pair[1]
    return None


def bears(pact, wish):
    """Whether the splitters are within wish."""
    return first_breach(pact, wish) is None


def first_breach(pact, wish):
    """None if the splitters are within wish, otherwise the first entry that is not, and the members that tell so."""
    check_pact(pact)
    return breach_of(pact, wish_stair(pact[0], wish))
