"""The houses of one lot, written as spans in sequence.

Neighbouring spans never touch, so that each set of houses is written in one
way. Everything goes through spans, never through houses.
"""

from assentwhole.values import is_number_to, is_tuple


def are_spans(size, thing):
    """Whether thing is the spans of a set of houses of a lot of this size."""
    if not isinstance(thing, tuple):
        return False
    least = 0
    for span in thing:
        if not is_tuple(span, 2) or not is_number_to(span[1], size):
            return False
        if not is_number_to(span[0], span[1] - 1) or span[0] < least:
            return False
        least = span[1] + 1
    return True


def houses_in(spans):
    """How many houses the spans have."""
    return sum(end - first for first, end in spans)


def joined_spans(pieces):
    """The spans of all houses in pieces (first, end), which may overlap."""
    found = []
    for first, end in sorted(pieces):
        if found and first <= found[-1][1]:
            found[-1] = (found[-1][0], max(end, found[-1][1]))
        else:
            found.append((first, end))
    return tuple(found)


def shared_spans(one, two):
    """The spans of the houses that are in both."""
    found = []
    here = there = 0
    while here < len(one) and there < len(two):
        first = max(one[here][0], two[there][0])
        end = min(one[here][1], two[there][1])
        if first < end:
            found.append((first, end))
        if one[here][1] < two[there][1]:
            here += 1
        else:
            there += 1
    return tuple(found)


def other_spans(size, spans):
    """The spans of the houses of the lot that are not in spans."""
    found = []
    start = 0
    for first, end in spans:
        if start < first:
            found.append((start, first))
        start = end
    if start < size:
        found.append((start, size))
    return tuple(found)


def first_spans(spans, many):
    """The spans of the so many houses of spans with the least numbers."""
    found = []
    left = many
    for first, end in spans:
        if left > 0:
            found.append((first, min(end, first + left)))
            left -= end - first
    return tuple(found)
