"""Which crowds suffice for each step, which wake the pact in every state, and which stop it."""

from assentwhole.lots import sizes_of
from assentwhole.pactchecks import check_pact
from assentwhole.pactgrids import PactGrid
from assentwhole.pactparts import require_charter, require_kind
from assentwhole.stairmaking import stair_in


def waker_points(tables):
    """The points that are in enough of each charter that is come to."""
    return tables.shared([tables.enough_some(charter) for charter in tables.come])


def waker_stair(pact):
    """The stair of the wakers of a pact that is known to be one."""
    tables = PactGrid(pact)
    return tables.stair(waker_points(tables))


def enough(pact, charter, kind):
    """The stair of both of ask and vote of charter for kind, in a sworn pact also of echo."""
    check_pact(pact)
    require_charter(pact, charter, "charter")
    require_kind(pact, kind)
    tables = PactGrid(pact)
    return tables.stair(tables.enough(charter, kind))


def wakers(pact):
    """The stair of the wakers of pact."""
    check_pact(pact)
    return waker_stair(pact)


def stoppers(pact):
    """The stair of the mirror of the wakers."""
    check_pact(pact)
    return stair_in(sizes_of(pact[0]), ("spare", waker_stair(pact)))
