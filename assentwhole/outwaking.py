"""The outwakers: which crowds can lead out of every state, perhaps by changes."""

from assentwhole.comings import reached_from
from assentwhole.pactchecks import check_pact
from assentwhole.pactgrids import PactGrid, joined_points
from assentwhole.waking import waker_points


def calm_points(tables):
    """The outwakers by the rule calm."""
    led = sorted({other for charter in tables.come for other in tables.changes[charter]})
    sets = [tables.enough_some(charter) for charter in led]
    if 0 not in led:
        sets.append(tables.begin_some(0) if tables.changes[0] else tables.enough_some(0))
    return tables.shared(sets)


def out_of(tables, charter, out):
    """What is in out(charter), as far as out tells of the charters behind it."""
    found = 0
    for kind in tables.kinds:
        ahead = [tables.step("vote", other, kind) | out[other] for other in reached_from(tables.changes, charter)]
        found |= tables.begin(charter, kind) & joined_points(ahead)
    return found


def bold_points(tables):
    """The outwakers by the rule bold: out grows until it stays."""
    out = {charter: 0 for charter in tables.come}
    while True:
        grown = {charter: out_of(tables, charter, out) for charter in tables.come}
        if grown == out:
            return tables.shared([out[charter] for charter in tables.come])
        out = grown


def outwaker_stair(pact):
    """The stair of the outwakers of a pact that is known to be one."""
    tables = PactGrid(pact)
    if pact[2] == "own":
        return tables.stair(waker_points(tables))
    if pact[2] == "calm":
        return tables.stair(calm_points(tables))
    return tables.stair(bold_points(tables))


def outwakers(pact):
    """The stair of the outwakers of pact."""
    check_pact(pact)
    return outwaker_stair(pact)
