"""What courses begin with: everyone brings a roll to its charter, and some houses alone go on from it."""

from assentwhole.carts import Cart, changes_to
from assentwhole.comings import path_between
from assentwhole.countrules import common_counts, is_below
from assentwhole.crowdjoins import all_houses, no_houses, shared_houses
from assentwhole.crowds import crowd_counts
from assentwhole.errors import BadMove
from assentwhole.lots import sizes_of
from assentwhole.placing import place_two
from assentwhole.plainbooks import PlainBook
from assentwhole.plainruns import Plain
from assentwhole.swornbooks import SwornBook
from assentwhole.swornruns import Sworn

# Two deeds that are no changes: rolls that go on by unlike ones part.
ONE_DEED = ("do", 0, 1, 0, 0)
OTHER_DEED = ("do", 1, 1, 0, 0)


def low_crowds(lots, one, two, fall):
    """Crowds in the stairs one and two whose common houses are all in fall, or None."""
    sizes = sizes_of(lots)
    counts = crowd_counts(fall)
    for here in one:
        for there in two:
            if is_below(common_counts(sizes, here, there), counts):
                return place_two(lots, here, there, fall)
    return None


def new_book(pact):
    """The book of a new run of pact without liars."""
    return PlainBook(pact) if pact[1] == "plain" else SwornBook(pact, no_houses(pact[0]))


def changes_between(pact, start, end):
    """The changes that lead from charter start to charter end."""
    return changes_to(path_between(pact[4], start, end))


def cart_at(pact, kind, charter):
    """A cart of everyone in a new run: a reign of this kind brought all a roll of charter, settled at each length."""
    cart = Cart(new_book(pact), all_houses(pact[0]))
    cart.begin(kind)
    cart.keep()
    for other in path_between(pact[4], 0, charter):
        cart.change(other)
    return cart


def keep_for_one(cart, crowds):
    """The first of two crowds gets the roll; the houses of both, if any, return to the time before this."""
    at = len(cart.told)
    cart.keep_by(crowds[0])
    cart.back(shared_houses(crowds[0], crowds[1]), at)


def cart_past(pact, kind, charter, other, crowds):
    """A cart_at charter whose roll goes on to charter other for the first of two crowds alone; and the roll for all."""
    cart = cart_at(pact, kind, charter)
    ahead = cart.roll
    cart.write((ONE_DEED,) if other == charter else changes_between(pact, charter, other))
    keep_for_one(cart, crowds)
    return cart, ahead


def course_done(pact, liars, moves):
    """A new run of pact that has done moves; None if moves is no tuple, or one of them is refused."""
    if not isinstance(moves, tuple):
        return None
    run = Plain(pact) if pact[1] == "plain" else Sworn(pact, liars)
    try:
        for move in moves:
            run.do(move)
    except BadMove:
        return None
    return run
