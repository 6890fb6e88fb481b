"""Which charters are come to, and which are behind a charter, by which changes."""

from assentwhole.pactchecks import check_pact
from assentwhole.pactparts import require_charter


def reached_from(changes, start):
    """The ascending charters to which changes lead from start, itself too."""
    found = {start: True}
    waiting = [start]
    while waiting:
        for charter in changes[waiting.pop()]:
            if charter not in found:
                found[charter] = True
                waiting.append(charter)
    return tuple(sorted(found))


def path_between(changes, start, end):
    """The charters of a shortest way from start to end by changes, start left out; None if there is none."""
    ahead = {start: None}
    waiting = [start]
    done = 0
    while done < len(waiting):
        charter = waiting[done]
        done += 1
        for other in changes[charter]:
            if other not in ahead:
                ahead[other] = charter
                waiting.append(other)
    if end not in ahead:
        return None
    found = []
    while end != start:
        found.append(end)
        end = ahead[end]
    return found[::-1]


def come_to(pact):
    """The ascending tuple of the charters that are come to."""
    check_pact(pact)
    return reached_from(pact[4], 0)


def behind(pact, charter):
    """The ascending tuple of the charters behind charter."""
    check_pact(pact)
    require_charter(pact, charter, "charter")
    return reached_from(pact[4], charter)
