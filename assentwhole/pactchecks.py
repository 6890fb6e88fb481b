"""Pacts checked: their lots, manner and rule, row by row, change by change."""

from assentwhole.errors import BadPact
from assentwhole.holding import trust_holds
from assentwhole.lots import check_lots, sizes_of
from assentwhole.trustchecks import is_trust
from assentwhole.values import is_number_to, is_tuple

STEPS = ("ask", "echo", "vote", "look", "hold")
RULES = ("own", "calm", "bold")
# The step that rows of a pact of this manner do not have.
LEFT_OUT = {"plain": "echo", "sworn": "hold"}


def are_charters(thing):
    """Whether thing has charters, each with as many rows as the others."""
    if not isinstance(thing, tuple) or not thing:
        return False
    if not all(isinstance(charter, tuple) for charter in thing):
        return False
    return len(thing[0]) > 0 and all(len(charter) == len(thing[0]) for charter in thing)


def head_fault(thing):
    """What is wrong with manner, rule or the form of the charters, or None."""
    if thing[1] not in ("plain", "sworn"):
        return "manner"
    if thing[2] not in RULES:
        return "rule"
    return None if are_charters(thing[3]) else "charters"


def is_step_trust(sizes, thing):
    """Whether thing is a trust that everyone is in, and nobody is not."""
    if not is_trust(sizes, thing) or not trust_holds(sizes, thing, sizes):
        return False
    return not trust_holds(sizes, thing, (0,) * len(sizes))


def row_fault(sizes, manner, row):
    """What is wrong with a row: "row" for all of it, or its first wrong step, or None."""
    if not is_tuple(row, 5):
        return "row"
    for step, thing in zip(STEPS, row):
        if step == LEFT_OUT[manner]:
            if thing is not None:
                return step
        elif not is_step_trust(sizes, thing):
            return step
    return None


def rows_fault(sizes, manner, charters):
    """The number and the word of the first wrong row, or None."""
    rows = [row for charter in charters for row in charter]
    for at, row in enumerate(rows):
        word = row_fault(sizes, manner, row)
        if word is not None:
            return at, word
    return None


def are_followers(many, charter, thing):
    """Whether thing is an ascending tuple of charters, charter itself not among them."""
    if not isinstance(thing, tuple):
        return False
    last = -1
    for other in thing:
        if not is_number_to(other, many - 1) or other <= last or other == charter:
            return False
        last = other
    return True


def changes_fault(many, changes):
    """The first charter whose followers are wrong, -1 for all of changes, or None."""
    if not is_tuple(changes, many):
        return -1
    for charter, followers in enumerate(changes):
        if not are_followers(many, charter, followers):
            return charter
    return None


def check_pact(thing):
    """How many charters the pact thing has; BadLots or BadPact if it is no pact."""
    if not is_tuple(thing, 5):
        raise BadPact(-1, "shape")
    check_lots(thing[0])
    word = head_fault(thing)
    if word is not None:
        raise BadPact(-1, word)
    many = len(thing[3])
    fault = rows_fault(sizes_of(thing[0]), thing[1], thing[3])
    if fault is not None:
        raise BadPact(fault[0], fault[1])
    charter = changes_fault(many, thing[4])
    if charter is not None:
        raise BadPact(charter, "changes")
    return many
