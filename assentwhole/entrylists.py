"""The entries of a pact: the trusts that two rolls that part have to share."""

from assentwhole.commons import common_stair
from assentwhole.errors import NotUsable
from assentwhole.pactchecks import check_pact
from assentwhole.pactparts import kinds_in
from assentwhole.pactstairs import PactStairs
from assentwhole.pairings import charter_pairs
from assentwhole.values import is_integer, is_tuple


def pair_entries(pact, one, two):
    """The entries of a pair of charters, the vote ones first."""
    kinds = kinds_in(pact)
    found = [("vote", one, here, two, there) for here in range(kinds) for there in range(kinds)]
    if pact[1] == "sworn":
        found.extend([("echo", one, kind, two, kind) for kind in range(kinds)])
    return found


def entries_in(pact):
    """The entries of a pact that is known to be one."""
    return tuple(entry for one, two in charter_pairs(pact) for entry in pair_entries(pact, one, two))


def places_of(entry):
    """Where the two trusts of an entry stand: for each its step, charter and kind."""
    step, one, here, two, there = entry
    return (step, one, here), ("ask" if step == "vote" else "echo", two, there)


def couple_of(stairs, entry):
    """The stairs of the two trusts of an entry."""
    one, two = places_of(entry)
    return stairs.stair(*one), stairs.stair(*two)


def is_entry(pact, thing):
    """Whether thing is an entry of the pact, True not taken for 1."""
    if not is_tuple(thing, 5) or not all(is_integer(part) for part in thing[1:]):
        return False
    return thing in entries_in(pact)


def entries_of(pact):
    """The tuple of the entries of pact."""
    check_pact(pact)
    return entries_in(pact)


def entry_stair(pact, entry):
    """The stair of the common of the two trusts of entry."""
    check_pact(pact)
    if not is_entry(pact, entry):
        raise NotUsable("entry")
    stairs = PactStairs(pact)
    one, two = couple_of(stairs, entry)
    return common_stair(stairs.sizes, one, two)
