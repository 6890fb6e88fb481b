"""Pacts widened as far as a wish lets."""

from assentwhole.bearing import breach_of
from assentwhole.comings import reached_from
from assentwhole.pactchecks import STEPS, check_pact
from assentwhole.pactparts import kinds_in
from assentwhole.pactstairs import PactStairs
from assentwhole.sufficing import sufficing_stair
from assentwhole.wishes import wish_stair


def widened_steps(pact):
    """The steps that are widened, in sequence."""
    return ("vote", "ask", "look", "hold") if pact[1:3] == ("plain", "own") else ("vote", "ask", "look")


def with_step(row, step, trust):
    """The row with another trust at step."""
    at = STEPS.index(step)
    return row[:at] + (trust,) + row[at + 1:]


def with_stairs(pact, step, found):
    """The pact in which each kind of the charters in found has this stair at step."""
    charters = tuple(
        tuple(with_step(row, step, ("least", found[charter])) for row in rows) if charter in found else rows
        for charter, rows in enumerate(pact[3])
    )
    return pact[:3] + (charters, pact[4])


def wide_pact(pact, wish):
    """A pact that bears the stair wish, widened step by step."""
    for step in widened_steps(pact):
        stairs = PactStairs(pact)
        found = {charter: sufficing_stair(stairs, wish, step, charter) for charter in reached_from(pact[4], 0)}
        pact = with_stairs(pact, step, found)
    return pact


def widened(pact, wish):
    """The pact with the greatest stairs that bear wish, step by step; None if it does not bear it."""
    check_pact(pact)
    wished = wish_stair(pact[0], wish)
    if breach_of(pact, wished) is not None:
        return None
    return wide_pact(pact, wished)


def is_full(pact, wish):
    """Whether the pact bears wish and has the stairs of the widened one already."""
    wide = widened(pact, wish)
    if wide is None:
        return False
    old, new = PactStairs(pact), PactStairs(wide)
    places = [(charter, kind) for charter in reached_from(pact[4], 0) for kind in range(kinds_in(pact))]
    return all(
        old.stair(step, charter, kind) == new.stair(step, charter, kind)
        for step in widened_steps(pact) for charter, kind in places
    )
