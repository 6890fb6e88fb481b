"""Crowds: checked, made of spans, counted, and asked for one house."""

from assentwhole.errors import BadCrowd, NotUsable
from assentwhole.lots import check_lots, sizes_of
from assentwhole.spans import are_spans, houses_in, joined_spans
from assentwhole.values import is_number_to, is_tuple


def crowd_fault(sizes, thing):
    """The first lot whose spans are wrong, -1 for all of thing, or None."""
    if not is_tuple(thing, len(sizes)):
        return -1
    for at, size in enumerate(sizes):
        if not are_spans(size, thing[at]):
            return at
    return None


def check_crowd(lots, thing):
    """How many houses the crowd thing has; BadCrowd if it is not a crowd."""
    check_lots(lots)
    fault = crowd_fault(sizes_of(lots), thing)
    if fault is not None:
        raise BadCrowd(fault)
    return sum(crowd_counts(thing))


def is_piece(lots, thing):
    """Whether thing is a triple (lot, first, end) that stands for houses."""
    if not is_tuple(thing, 3):
        return False
    lot, first, end = thing
    if not is_number_to(lot, len(lots) - 1) or not is_number_to(end, lots[lot][1]):
        return False
    return is_number_to(first, end - 1)


def crowd_of(lots, spans):
    """The crowd of all houses that the triples (lot, first, end) stand for."""
    check_lots(lots)
    if not isinstance(spans, tuple):
        raise NotUsable("spans")
    pieces = [[] for lot in lots]
    for piece in spans:
        if not is_piece(lots, piece):
            raise NotUsable("spans")
        pieces[piece[0]].append((piece[1], piece[2]))
    return tuple(joined_spans(rows) for rows in pieces)


def crowd_counts(crowd):
    """The counts of a crowd that is known to be such."""
    return tuple(houses_in(spans) for spans in crowd)


def counts_of(lots, crowd):
    """The counts of crowd."""
    check_crowd(lots, crowd)
    return crowd_counts(crowd)


def has_house(lots, crowd, lot, number):
    """Whether crowd has house number of lot."""
    check_crowd(lots, crowd)
    if not is_number_to(lot, len(lots) - 1):
        raise NotUsable("lot")
    if not is_number_to(number, lots[lot][1] - 1):
        raise NotUsable("number")
    return any(first <= number < end for first, end in crowd[lot])
