"""Trusts checked, trust by trust, in the sequence in which they are written."""

from assentwhole.errors import BadTrust
from assentwhole.lots import check_lots, sizes_of
from assentwhole.stairrules import stair_fault
from assentwhole.values import is_number, is_number_to

LENGTHS = {"lot": 3, "any": 3, "heavy": 4, "least": 2, "spare": 2}


def parts_of(trust):
    """The parts of a trust, () for one that has none."""
    if trust[0] == "any":
        return trust[2]
    if trust[0] == "heavy":
        return trust[3]
    return ()


def has_shape(thing):
    """Whether thing is a tuple as long as its first word asks, parts and weights too."""
    if not isinstance(thing, tuple) or not thing or not isinstance(thing[0], str):
        return False
    if LENGTHS.get(thing[0]) != len(thing):
        return False
    if thing[0] == "heavy" and not isinstance(thing[2], tuple):
        return False
    return isinstance(parts_of(thing), tuple)


def lot_trust_fault(sizes, trust):
    """What is wrong with a trust of a lot, or None."""
    if not is_number_to(trust[1], len(sizes) - 1):
        return "lot"
    return None if is_number_to(trust[2], sizes[trust[1]] + 1) else "many"


def any_fault(trust):
    """What is wrong with so many of several parts, or None."""
    return None if is_number_to(trust[1], len(trust[2]) + 1) else "many"


def heavy_fault(trust):
    """What is wrong with weights or bound, or None."""
    bound, weights, parts = trust[1:]
    if len(weights) != len(parts):
        return "weights"
    if not all(is_number(weight) for weight in weights):
        return "weights"
    return None if is_number_to(bound, sum(weights) + 1) else "bound"


def own_fault(sizes, thing):
    """What is wrong with thing as a trust, its parts left aside, or None."""
    if not has_shape(thing):
        return "shape"
    if thing[0] == "lot":
        return lot_trust_fault(sizes, thing)
    if thing[0] == "any":
        return any_fault(thing)
    if thing[0] == "heavy":
        return heavy_fault(thing)
    return None if stair_fault(sizes, thing[1]) is None else "stair"


def first_fault(sizes, thing):
    """How many trusts of thing are right ahead of the first wrong one, and its word.

    Without a wrong one it is all of them, and None.
    """
    waiting = [thing]
    many = 0
    while waiting:
        trust = waiting.pop()
        word = own_fault(sizes, trust)
        if word is not None:
            return many, word
        many += 1
        waiting.extend(parts_of(trust)[::-1])
    return many, None


def is_trust(sizes, thing):
    """Whether thing is a trust over lots of these sizes."""
    return first_fault(sizes, thing)[1] is None


def check_trust(lots, thing):
    """How many trusts are in thing; BadTrust if one is not as it has to be."""
    check_lots(lots)
    many, word = first_fault(sizes_of(lots), thing)
    if word is not None:
        raise BadTrust(many, word)
    return many
