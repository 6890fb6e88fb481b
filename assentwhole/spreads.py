"""Spreads: a value for each house, told for spans of houses with one value.

A spread has, for each lot, a tuple of pieces (first, end, value) in sequence;
together they are the whole lot, and neighbours have unlike values.
"""

from assentwhole.spans import other_spans


def even_spread(lots, value):
    """The spread that gives all houses one value."""
    return tuple(((0, size, value),) for word, size in lots)


def pieces_within(pieces, spans):
    """What of the pieces of a lot lies within spans."""
    found = []
    here = there = 0
    while here < len(pieces) and there < len(spans):
        first = max(pieces[here][0], spans[there][0])
        end = min(pieces[here][1], spans[there][1])
        if first < end:
            found.append((first, end, pieces[here][2]))
        if pieces[here][1] < spans[there][1]:
            here += 1
        else:
            there += 1
    return found


def joined_pieces(pieces):
    """The pieces of a whole lot in sequence, neighbours with one value made one."""
    found = []
    # No two begin at one house, so that values are never put in sequence.
    for first, end, value in sorted(pieces):
        if found and found[-1][2] == value:
            found[-1] = (found[-1][0], end, value)
        else:
            found.append((first, end, value))
    return tuple(found)


def values_in(spread, crowd):
    """The values of the houses of crowd, one for each piece."""
    return [piece[2] for pieces, spans in zip(spread, crowd) for piece in pieces_within(pieces, spans)]


def changed_spread(lots, spread, crowd, change):
    """The spread in which each house of crowd has what change makes of its value."""
    found = []
    for at, pieces in enumerate(spread):
        if not crowd[at]:
            found.append(pieces)
            continue
        changed = [(first, end, change(value)) for first, end, value in pieces_within(pieces, crowd[at])]
        kept = pieces_within(pieces, other_spans(lots[at][1], crowd[at]))
        found.append(joined_pieces(changed + kept))
    return tuple(found)


def spread_from(lots, spread, crowd, other):
    """The spread in which each house of crowd has the value that it has in other."""
    found = []
    for at, pieces in enumerate(spread):
        taken = pieces_within(other[at], crowd[at])
        kept = pieces_within(pieces, other_spans(lots[at][1], crowd[at]))
        found.append(joined_pieces(taken + kept))
    return tuple(found)


def counts_reaching(spread, least):
    """The counts of the houses whose value, a number, is at least least."""
    return tuple(sum(end - first for first, end, value in pieces if value >= least) for pieces in spread)
