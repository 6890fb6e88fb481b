"""Courses in which two settled rolls part."""

from assentwhole.comings import reached_from
from assentwhole.courses import ONE_DEED, OTHER_DEED, cart_at, cart_past, changes_between, keep_for_one, low_crowds
from assentwhole.crowdjoins import no_houses, shared_houses
from assentwhole.crowds import check_crowd
from assentwhole.entrylists import couple_of, entries_in
from assentwhole.errors import NotFor
from assentwhole.pactchecks import check_pact
from assentwhole.pactstairs import PactStairs


def is_short(pact, entry):
    """Whether two reigns are enough for an entry: its first roll goes on from its second one's charter."""
    step, one, _, two, _ = entry
    if step != "vote":
        return False
    return one == two or one in pact[4][two] or (pact[2] == "bold" and one in reached_from(pact[4], two))


def split_at(pact, fall):
    """An entry that fall is in, a short one if there is one, and two crowds that share houses of fall only; or None."""
    stairs = PactStairs(pact)
    found = None
    for entry in entries_in(pact):
        if found is None or is_short(pact, entry):
            one, two = couple_of(stairs, entry)
            crowds = low_crowds(pact[0], one, two, fall)
            if crowds is not None and is_short(pact, entry):
                return entry, crowds
            if crowds is not None:
                found = entry, crowds
    return found


def source_of(pact, one, two):
    """A charter from which one reign leads a roll to each of two charters that are a pair."""
    if one == two or two in pact[4][one]:
        return one
    if pact[2] == "bold":
        return 0
    return [charter for charter in reached_from(pact[4], 0) if one in pact[4][charter] and two in pact[4][charter]][0]


def by_two_reigns(pact, entry, crowds):
    """The moves of a short entry."""
    _, one, here, two, there = entry
    cart, ahead = cart_past(pact, here, two, one, crowds)
    cart.begin_by(there, crowds[1], None, ahead)
    cart.write((OTHER_DEED,))
    cart.keep()
    return tuple(cart.told)


def two_branches(pact, kind, one, two):
    """A cart whose first reign led a roll to charter two, its second one to charter one, and their (reign, roll)."""
    source = source_of(pact, one, two)
    cart = cart_at(pact, kind, source)
    ahead = cart.roll
    if two != source:
        cart.write(changes_between(pact, source, two))
    first = cart.reign, cart.roll
    cart.begin_by(kind, cart.crowd, None, ahead)
    cart.write((ONE_DEED,) + changes_between(pact, source, one))
    return cart, first, (cart.reign, cart.roll)


def by_three_reigns(pact, entry, crowds):
    """The moves of a vote entry that is not short."""
    _, one, here, two, there = entry
    cart, first, _ = two_branches(pact, here, one, two)
    keep_for_one(cart, crowds)
    cart.begin_by(there, crowds[1], first, first[1])
    cart.keep()
    return tuple(cart.told)


def by_echoes(pact, entry, crowds):
    """The moves of an echo entry: one reign has two bases, each of which one of the crowds echoes."""
    _, one, kind, two, _ = entry
    cart, first, second = two_branches(pact, kind, one, two)
    cart.answer(kind, cart.crowd)
    reign = cart.reign
    cart.lay(cart.crowd, first, first[1])
    cart.lay(cart.crowd, second, second[1])
    voted = second[1] + (ONE_DEED,)
    at = len(cart.told)
    cart.told.append(("echo", reign, second[1], voted, crowds[0]))
    cart.back(shared_houses(crowds[0], crowds[1]), at)
    # At least as long as the roll that is voted, so that it is best where it is known.
    known = first[1] + (OTHER_DEED,) * max(1, len(voted) - len(first[1]))
    cart.told.append(("echo", reign, first[1], known, crowds[1]))
    cart.told.append(("lock", reign, second[1], voted, cart.crowd))
    cart.begin_by(kind, cart.crowd, (reign, known), known)
    cart.keep()
    return tuple(cart.told)


def split_moves(pact, fall):
    """Moves behind which two settled rolls part, all fallen in fall; None if it is not in the splitters."""
    found = split_at(pact, fall)
    if found is None:
        return None
    entry, crowds = found
    if is_short(pact, entry):
        return by_two_reigns(pact, entry, crowds)
    if entry[0] == "vote":
        return by_three_reigns(pact, entry, crowds)
    step, one, here, two, there = entry
    # A pair may be led apart only from the charter that the other one may follow.
    if one in pact[4][two]:
        return by_echoes(pact, (step, two, there, one, here), crowds[::-1])
    return by_echoes(pact, entry, crowds)


def fewest_reigns(pact, fall):
    """The least number of reigns with rolls in a course, all fallen in fall, in which settled rolls part, or None."""
    check_pact(pact)
    check_crowd(pact[0], fall)
    if pact[1] != "plain":
        raise NotFor("manner")
    found = split_at(pact, fall)
    if found is None:
        return None
    return 2 if is_short(pact, found[0]) else 3


def split_course(pact, fall):
    """Liars within fall, and moves behind which two settled rolls part; None if fall is not in the splitters."""
    check_pact(pact)
    check_crowd(pact[0], fall)
    moves = split_moves(pact, fall)
    return None if moves is None else (no_houses(pact[0]), moves)
