"""Lots, and the counts of everyone and of nobody."""

from assentwhole.errors import BadLots
from assentwhole.values import is_integer, is_tuple, is_word


def lot_fault(lot, words):
    """What is wrong with lot behind lots with these words, or None."""
    if not is_tuple(lot, 2):
        return "shape"
    word, size = lot
    if not is_word(word):
        return "word"
    if word in words:
        return "twice"
    if not is_integer(size) or size < 1:
        return "size"
    return None


def lots_fault(thing):
    """The place and the word of the first fault of thing as lots, or None."""
    if not isinstance(thing, tuple) or not thing:
        return -1, "shape"
    words = {}
    for at, lot in enumerate(thing):
        fault = lot_fault(lot, words)
        if fault is not None:
            return at, fault
        words[lot[0]] = at
    return None


def check_lots(thing):
    """How many lots thing has; BadLots if it is not lots."""
    fault = lots_fault(thing)
    if fault is not None:
        raise BadLots(fault[0], fault[1])
    return len(thing)


def sizes_of(lots):
    """The sizes of lots that are known to be such."""
    return tuple(size for word, size in lots)


def everyone(lots):
    """The counts of all houses."""
    check_lots(lots)
    return sizes_of(lots)


def nobody(lots):
    """The counts of no houses."""
    return (0,) * check_lots(lots)
