"""Moves by which a crowd settles a deed, perhaps behind changes."""

from assentwhole.carts import Cart, changes_to
from assentwhole.comings import path_between, reached_from
from assentwhole.crowds import crowd_counts
from assentwhole.deeds import change_places, charter_told, is_led
from assentwhole.outwaking import outwaker_stair
from assentwhole.plans import enough_steps, require_task
from assentwhole.stairrules import is_raised


class Leader:
    """How a crowd gets on from one reign to the next behind its best roll."""

    def __init__(self, book, crowd):
        self.book = book
        self.crowd = crowd
        self.rule = book.base_pact[2]
        self.changes = book.base_pact[4]
        self.kinds = list(range(len(book.base_pact[3][0])))
        self.roll = book.best_roll(crowd)
        # For each charter from which the crowd gets on: the kind of a reign, the charter to which
        # this reign is led, and whether it settles its roll there.
        self.legs = {}

    def begins(self, charter, kind):
        """Whether crowd is in begin of charter for kind."""
        steps = [step for step in enough_steps(self.book) if step != "vote"]
        return all(self.book.takes(step, charter, kind, self.crowd) for step in steps)

    def reached(self, charter):
        """The charters to which a reign that begins at this one is led ahead of anything settled in it."""
        if self.rule == "bold":
            return reached_from(self.changes, charter)
        if self.rule == "calm" and charter == 0 and not change_places(self.roll):
            return (0,) + self.changes[0]
        return (charter,)

    def leg_from(self, charter):
        """A leg from charter that settles, or leads to where the crowd is known to get on; or None."""
        places = [(kind, other) for kind in self.kinds if self.begins(charter, kind) for other in self.reached(charter)]
        for kind, other in places:
            if self.book.takes("vote", other, kind, self.crowd):
                return kind, other, True
        for kind, other in places:
            if other in self.legs:
                return kind, other, False
        return None

    def find_legs(self):
        """Find the legs of all charters: each new one leads to one that was found before."""
        while True:
            rest = [charter for charter in range(len(self.changes)) if charter not in self.legs]
            legs = [(charter, self.leg_from(charter)) for charter in rest]
            fresh = [(charter, leg) for charter, leg in legs if leg is not None]
            if not fresh:
                return
            for charter, leg in fresh:
                self.legs[charter] = leg

    def lead(self, deed):
        """The moves that settle the deed, from the charter of the best roll."""
        self.find_legs()
        cart = Cart(self.book, self.crowd)
        charter = charter_told(self.roll)
        settles = False
        while not settles:
            kind, other, settles = self.legs[charter]
            cart.begin(kind)
            cart.write(changes_to(path_between(self.changes, charter, other)) + ((deed,) if settles else ()))
            cart.keep()
            charter = other
        return tuple(cart.told)


def lead_out(run, crowd, deed):
    """Moves of crowd that settle deed behind its best roll in a stretch of it, or None."""
    require_task(run, crowd, deed)
    book = run._book
    pact = book.base_pact
    if not is_led(pact[4], book.best_roll(crowd), 0):
        return None
    if not is_raised(outwaker_stair(pact), crowd_counts(crowd)):
        return None
    return Leader(book, crowd).lead(deed)
