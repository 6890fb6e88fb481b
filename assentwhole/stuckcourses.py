"""Courses from which a crowd that is no waker settles nothing more."""

from assentwhole.comings import reached_from
from assentwhole.courses import cart_at, new_book
from assentwhole.crowdjoins import has_houses
from assentwhole.crowds import check_crowd
from assentwhole.errors import NotUsable
from assentwhole.pactchecks import check_pact
from assentwhole.plans import least_kind


def require_houses(lots, crowd):
    """BadCrowd if crowd is no crowd, NotUsable if it has no houses."""
    check_crowd(lots, crowd)
    if not has_houses(crowd):
        raise NotUsable("crowd")


def least_kinds(pact, crowd):
    """For each charter that is come to, ascending, the least kind for which crowd is in enough, or None."""
    book = new_book(pact)
    return {charter: least_kind(book, charter, crowd) for charter in reached_from(pact[4], 0)}


def stuck_at(kinds):
    """The first charter of least_kinds for which there is no kind, or None."""
    for charter, kind in kinds.items():
        if kind is None:
            return charter
    return None


def stuck_moves(pact, charter):
    """Moves by which everyone gets a roll of charter and promises a reign above it."""
    cart = cart_at(pact, 0, charter)
    cart.answer(0, cart.crowd)
    return tuple(cart.told)


def stuck_course(pact, crowd):
    """Moves behind which crowd settles nothing more; None if it is in the wakers."""
    check_pact(pact)
    require_houses(pact[0], crowd)
    charter = stuck_at(least_kinds(pact, crowd))
    return None if charter is None else stuck_moves(pact, charter)
