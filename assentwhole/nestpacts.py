"""Pacts nested: each word of a pact becomes a part with lots and trusts of its own."""

from assentwhole.errors import NotFor, NotUsable
from assentwhole.lots import lots_fault, sizes_of
from assentwhole.nesting import lots_of_parts, nested_stair
from assentwhole.pactchecks import STEPS, check_pact, is_step_trust
from assentwhole.stairmaking import stair_in
from assentwhole.values import is_tuple

# Which of the trusts of a part stands for its word at a step.
PART_PLACES = {"ask": 1, "vote": 2, "look": 1, "hold": 2}


def is_pact_part(thing):
    """Whether thing is a triple of lots and two trusts over them for the steps of a pact."""
    if not is_tuple(thing, 3) or lots_fault(thing[0]) is not None:
        return False
    return all(is_step_trust(sizes_of(thing[0]), trust) for trust in thing[1:])


def are_pact_parts(many, thing):
    """Whether thing is so many parts whose lots have different words."""
    if not is_tuple(thing, many) or not all(is_pact_part(part) for part in thing):
        return False
    return lots_fault(lots_of_parts(thing)) is None


class Nester:
    """Trusts over words made trusts over the lots of parts, for steps."""

    def __init__(self, words, parts):
        self.sizes = sizes_of(words)
        self.nothing = [(0,) * len(part[0]) for part in parts]
        # For each place in a part the stairs of its trusts.
        self.stairs = {at: [stair_in(sizes_of(part[0]), part[at]) for part in parts] for at in (1, 2)}
        self.made = {}

    def nested(self, step, trust):
        """The trust that a trust over words becomes at this step; None stays None."""
        if trust is None:
            return None
        words_stair = stair_in(self.sizes, trust)
        place = PART_PLACES[step], words_stair
        if place not in self.made:
            self.made[place] = "least", nested_stair(words_stair, self.stairs[place[0]], self.nothing)
        return self.made[place]

    def row(self, row):
        """A row with all its trusts nested."""
        return tuple(self.nested(step, trust) for step, trust in zip(STEPS, row))


def nest_pact(pact, parts):
    """The plain pact over the lots of parts, one for each lot of pact, which all have size 1."""
    check_pact(pact)
    if sizes_of(pact[0]) != (1,) * len(pact[0]):
        raise NotUsable("pact")
    if not are_pact_parts(len(pact[0]), parts):
        raise NotUsable("parts")
    if pact[1] != "plain":
        raise NotFor("manner")
    nester = Nester(pact[0], parts)
    charters = tuple(tuple(nester.row(row) for row in rows) for rows in pact[3])
    return (lots_of_parts(parts),) + pact[1:3] + (charters, pact[4])
