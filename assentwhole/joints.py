"""Charters joined: a charter between two others, with what is both of theirs."""

from assentwhole.clauses import clauses_stair
from assentwhole.errors import NotUsable
from assentwhole.pactchecks import STEPS, check_pact
from assentwhole.pactparts import kinds_in, require_charter, steps_in
from assentwhole.pactstairs import PactStairs


def require_other(pact, charter, other):
    """NotUsable for what is no charter of pact, and if the two are one."""
    require_charter(pact, charter, "charter")
    require_charter(pact, other, "other")
    if charter == other:
        raise NotUsable("other")


def joined_row(stairs, charter, other, kind):
    """The row that has both of the trusts of two charters at each step."""
    row = {}
    for step in steps_in(stairs.base_pact):
        two = [stairs.stair(step, charter, kind), stairs.stair(step, other, kind)]
        row[step] = ("least", clauses_stair(len(stairs.sizes), two))
    return tuple(row.get(step) for step in STEPS)


def joined_changes(changes, charter, other):
    """The changes with a new charter that alone leads from charter on to other."""
    new = len(changes)
    led = tuple(follower for follower in changes[charter] if follower != other) + (new,)
    return changes[:charter] + (led,) + changes[charter + 1:] + ((other,),)


def joined(pact, charter, other):
    """The pact with one more charter, between charter and other."""
    check_pact(pact)
    require_other(pact, charter, other)
    stairs = PactStairs(pact)
    rows = tuple(joined_row(stairs, charter, other, kind) for kind in range(kinds_in(pact)))
    return pact[:3] + (pact[3] + (rows,), joined_changes(pact[4], charter, other))
