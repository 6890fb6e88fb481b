"""Verdicts on what a crowd that is awake can go on from."""

from assentwhole.comings import reached_from
from assentwhole.courses import course_done, new_book
from assentwhole.crowdjoins import no_houses
from assentwhole.deeds import charter_told
from assentwhole.pactchecks import check_pact
from assentwhole.pactparts import kinds_in
from assentwhole.plans import least_kind, suffices
from assentwhole.stuckcourses import least_kinds, require_houses, stuck_at, stuck_moves
from assentwhole.values import is_integer, is_number_to, is_tuple


def are_kinds(pact, crowd, kinds):
    """Whether kinds has, for each charter that is come to, a kind for which crowd is in enough."""
    come = reached_from(pact[4], 0)
    if not is_tuple(kinds, len(come)) or not all(is_number_to(kind, kinds_in(pact) - 1) for kind in kinds):
        return False
    book = new_book(pact)
    return all(suffices(book, charter, kind, crowd) for charter, kind in zip(come, kinds))


def stuck_charter(book, crowd):
    """The charter of the one roll with which crowd is stuck, or None if it is not."""
    desks = book.desks_in(crowd)
    _, reign, roll = desks[0][:3]
    if not all(desk[1:3] == (reign, roll) for desk in desks):
        return None
    if book.used() and min(desk[0] for desk in desks) <= max(book.used()):
        return None
    charter = charter_told(roll)
    return charter if least_kind(book, charter, crowd) is None else None


def is_stuck(pact, crowd, charter, moves):
    """Whether crowd is stuck at charter behind moves, none of them a return."""
    run = course_done(pact, no_houses(pact[0]), moves)
    if run is None or not is_integer(charter) or any(move[0] == "return" for move in moves):
        return False
    return stuck_charter(run._book, crowd) == charter


def wake_verdict(pact, crowd):
    """A verdict that is_wake_verdict accepts, with the least kinds if crowd is a waker."""
    check_pact(pact)
    require_houses(pact[0], crowd)
    kinds = least_kinds(pact, crowd)
    charter = stuck_at(kinds)
    if charter is None:
        return "wakes", tuple(kinds.values())
    return "stuck", charter, stuck_moves(pact, charter)


def is_wake_verdict(pact, crowd, thing):
    """Whether thing is a verdict on crowd."""
    check_pact(pact)
    require_houses(pact[0], crowd)
    if is_tuple(thing, 3) and thing[0] == "stuck":
        return is_stuck(pact, crowd, thing[1], thing[2])
    return is_tuple(thing, 2) and thing[0] == "wakes" and are_kinds(pact, crowd, thing[1])
