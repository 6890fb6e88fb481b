"""Moves by which a crowd carries the pact to another charter, or along a route."""

from assentwhole.carts import Cart
from assentwhole.deeds import charter_told
from assentwhole.errors import NotFor, NotUsable
from assentwhole.pactparts import require_charter
from assentwhole.plans import least_kind, suffices
from assentwhole.stretches import require_run, require_team
from assentwhole.values import is_number_to


def begun_from(book, crowd, charter):
    """Where the crowd gets from a desk with a roll of charter: reigns that it can begin and settle."""
    rows = book.base_pact[3][charter]
    return [(charter, kind) for kind in range(len(rows)) if suffices(book, charter, kind, crowd)]


def led_on(book, crowd, charter, kind):
    """Where the crowd gets from a settled roll of charter in a reign of this kind, by a change.

    (d, kind) if the roll with the change is settled too, (d, None) if it is only on the desks.
    """
    found = [(other, None) for other in book.base_pact[4][charter]]
    return found + [(other, kind) for other, _ in found if book.takes("vote", other, kind, crowd)]


def ways_to(book, crowd, start):
    """For each place that the crowd gets to from (start, None), the place ahead of it."""
    ahead = {(start, None): None}
    waiting = [(start, None)]
    done = 0
    while done < len(waiting):
        place = waiting[done]
        done += 1
        charter, kind = place
        found = begun_from(book, crowd, charter) if kind is None else led_on(book, crowd, charter, kind)
        for other in found:
            if other not in ahead:
                ahead[other] = place
                waiting.append(other)
    return ahead


def way_to(book, crowd, start, charter):
    """The places by which the crowd gets to a settled roll of charter, or None."""
    ahead = ways_to(book, crowd, start)
    place = None
    for other in ahead:
        if place is None and other[0] == charter and other[1] is not None:
            place = other
    if place is None:
        return None
    found = []
    while place is not None:
        found.append(place)
        place = ahead[place]
    return found[::-1]


def moves_along(book, crowd, places):
    """The moves by which the crowd gets from each of places to the next one."""
    cart = Cart(book, crowd)
    last = places[0]
    for place in places[1:]:
        if last[1] is None:
            cart.begin(place[1])
            cart.keep()
        else:
            cart.change(place[0])
        last = place
    return tuple(cart.told)


def carry_to(run, crowd, charter):
    """Moves of crowd, by own, that settle a roll of charter in a stretch of it, or None."""
    require_run(run)
    require_team(run, crowd)
    book = run._book
    require_charter(book.base_pact, charter, "charter")
    if book.base_pact[2] != "own":
        raise NotFor("rule")
    places = way_to(book, crowd, charter_told(book.best_roll(crowd)), charter)
    return None if places is None else moves_along(book, crowd, places)


def is_route(pact, start, thing):
    """Whether thing is charters from start on, each following the one ahead of it."""
    if not isinstance(thing, tuple) or not thing:
        return False
    if not all(is_number_to(charter, len(pact[3]) - 1) for charter in thing):
        return False
    if thing[0] != start:
        return False
    return all(charter in pact[4][thing[at]] for at, charter in enumerate(thing[1:]))


def carry(run, crowd, route):
    """Moves of crowd that settle rolls of each charter of route in a stretch of it, or None."""
    require_run(run)
    require_team(run, crowd)
    book = run._book
    if not is_route(book.base_pact, charter_told(book.best_roll(crowd)), route):
        raise NotUsable("route")
    kinds = [least_kind(book, charter, crowd) for charter in route]
    if None in kinds:
        return None
    cart = Cart(book, crowd)
    for at, kind in enumerate(kinds):
        if at > 0:
            cart.change(route[at])
        cart.begin(kind)
        cart.keep()
    return tuple(cart.told)
