"""Crowds placed: the first houses, and two crowds that share few houses."""

from assentwhole.counting import check_counts
from assentwhole.countrules import common_counts, is_below
from assentwhole.crowds import check_crowd, crowd_counts
from assentwhole.lots import sizes_of
from assentwhole.spans import first_spans, joined_spans, other_spans


def first_houses(lots, counts):
    """The crowd with these counts that has the least houses of each lot."""
    check_counts(lots, counts)
    return tuple(first_spans(((0, lot[1]),), counts[at]) for at, lot in enumerate(lots))


def filled_spans(size, shared, taken, many):
    """The spans of shared and of so many further houses, none of them taken."""
    free = other_spans(size, joined_spans(shared + taken))
    return joined_spans(shared + first_spans(free, many))


def place_in_lot(size, one, two, fall):
    """The spans of one and of two houses, with as few in both as can be."""
    common = max(0, one + two - size)
    shared = first_spans(fall, common)
    here = filled_spans(size, shared, (), one - common)
    there = filled_spans(size, shared, here, two - common)
    return here, there


def place_two(lots, one, two, fall):
    """Crowds with the counts one and two that share houses of fall only.

    Each takes few spans: those of fall, and what lies between them.
    """
    check_counts(lots, one)
    check_counts(lots, two)
    check_crowd(lots, fall)
    sizes = sizes_of(lots)
    if not is_below(common_counts(sizes, one, two), crowd_counts(fall)):
        return None
    rows = [place_in_lot(size, one[at], two[at], fall[at]) for at, size in enumerate(sizes)]
    return tuple(row[0] for row in rows), tuple(row[1] for row in rows)
