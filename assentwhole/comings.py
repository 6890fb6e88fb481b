"""Which charters are come to, and which are behind a charter."""

from assentwhole.pactchecks import check_pact
from assentwhole.pactparts import require_charter


def reached_from(changes, start):
    """The ascending charters to which changes lead from start, itself too."""
    found = {start: True}
    waiting = [start]
    while waiting:
        for charter in changes[waiting.pop()]:
            if charter not in found:
                found[charter] = True
                waiting.append(charter)
    return tuple(sorted(found))


def come_to(pact):
    """The ascending tuple of the charters that are come to."""
    check_pact(pact)
    return reached_from(pact[4], 0)


def behind(pact, charter):
    """The ascending tuple of the charters behind charter."""
    check_pact(pact)
    require_charter(pact, charter, "charter")
    return reached_from(pact[4], charter)
