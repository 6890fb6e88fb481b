"""Courses in which a look shows a roll that is not right."""

from assentwhole.courses import ONE_DEED, cart_at, cart_past, low_crowds
from assentwhole.crowdjoins import no_houses, shared_houses
from assentwhole.crowds import check_crowd
from assentwhole.mislooking import hold_rows, look_rows, require_holds
from assentwhole.pactchecks import check_pact
from assentwhole.pactstairs import PactStairs


def low_row(lots, rows, fall):
    """The first of rows that fall is in, and crowds in its stairs that share houses of fall only; or None."""
    for place, couple in rows:
        crowds = low_crowds(lots, couple[0], couple[1], fall)
        if crowds is not None:
            return place, crowds
    return None


def look_moves(pact, place, crowds):
    """The moves by which a desk look misses what was settled beyond the desks that tell."""
    charter, kind, other, here = place
    tellers, voters = crowds
    cart, _ = cart_past(pact, here, charter, other, (voters, tellers))
    cart.told.extend([("open", kind), ("tell", 0, tellers), ("show", 0)])
    return tuple(cart.told)


def head_moves(pact, place, crowds):
    """The moves by which a head look misses what was settled in a greater reign."""
    charter, kind, there = place
    tellers, voters = crowds
    cart = cart_at(pact, kind, charter)
    reign, many = cart.reign, len(cart.roll)
    at = len(cart.told)
    cart.begin_by(there, voters, None, cart.roll)
    cart.write((ONE_DEED,))
    cart.keep_by(voters)
    cart.back(shared_houses(tellers, voters), at)
    cart.told.extend([("openhead", reign), ("tellhead", 0, tellers), ("showhead", 0, many)])
    return tuple(cart.told)


def look_course(pact, fall):
    """Liars within fall, and moves behind which a desk look is not right; None if fall is not in the mislookers."""
    check_pact(pact)
    check_crowd(pact[0], fall)
    found = low_row(pact[0], look_rows(pact, PactStairs(pact)), fall)
    if found is None:
        return None
    return no_houses(pact[0]), look_moves(pact, found[0], found[1])


def head_course(pact, fall):
    """Nobody, and moves behind which a head look is not right; None if fall is not in the misholders."""
    check_pact(pact)
    check_crowd(pact[0], fall)
    require_holds(pact)
    found = low_row(pact[0], hold_rows(pact, PactStairs(pact)), fall)
    if found is None:
        return None
    return no_houses(pact[0]), head_moves(pact, found[0], found[1])
