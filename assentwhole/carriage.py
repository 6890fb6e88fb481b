"""The carriers: which crowds can carry the pact from one charter to another."""

from assentwhole.errors import NotFor
from assentwhole.pactchecks import check_pact
from assentwhole.pactgrids import PactGrid, joined_points
from assentwhole.pactparts import require_charter


def sources_of(changes, charter):
    """The charters that charter may follow."""
    return [source for source, followers in enumerate(changes) if charter in followers]


def led_from(tables, led, charter, kind):
    """The points in led, for this kind, of some charter that this one may follow."""
    return joined_points([led[(source, kind)] for source in sources_of(tables.changes, charter)])


def held_points(tables, start, led, charter):
    """The points in held(charter), as far as led tells."""
    if charter == start:
        return tables.grid.whole
    return joined_points([led_from(tables, led, charter, kind) for kind in tables.kinds])


def led_points(tables, start, led, charter, kind):
    """The points in led(charter, kind), as far as led tells of others."""
    begun = held_points(tables, start, led, charter) & tables.begin(charter, kind)
    return tables.step("vote", charter, kind) & (begun | led_from(tables, led, charter, kind))


def all_led(tables, start):
    """For each charter and kind the points of led: they grow until they stay."""
    places = [(charter, kind) for charter in range(len(tables.changes)) for kind in tables.kinds]
    led = {place: 0 for place in places}
    while True:
        grown = {place: led_points(tables, start, led, place[0], place[1]) for place in places}
        if grown == led:
            return led
        led = grown


def carriers(pact, charter, other):
    """The stair of the carriers of pact, by own, from charter to other."""
    check_pact(pact)
    require_charter(pact, charter, "charter")
    require_charter(pact, other, "other")
    if pact[2] != "own":
        raise NotFor("rule")
    tables = PactGrid(pact)
    led = all_led(tables, charter)
    return tables.stair(joined_points([led[(other, kind)] for kind in tables.kinds]))
