"""Counts: checked, compared, their least common ones and those left."""

from assentwhole.countrules import common_counts, counts_fault, is_below, rest_counts
from assentwhole.errors import BadCounts
from assentwhole.lots import check_lots, sizes_of


def check_counts(lots, thing):
    """The sum of the numbers of thing; BadCounts if it is not counts."""
    check_lots(lots)
    fault = counts_fault(sizes_of(lots), thing)
    if fault is not None:
        raise BadCounts(fault)
    return sum(thing)


def below(lots, one, two):
    """Whether the counts one are below the counts two."""
    check_counts(lots, one)
    check_counts(lots, two)
    return is_below(one, two)


def least_common(lots, one, two):
    """The least common counts of the counts one and two."""
    check_counts(lots, one)
    check_counts(lots, two)
    return common_counts(sizes_of(lots), one, two)


def outside(lots, counts):
    """The counts of all houses that a crowd with these counts leaves out."""
    check_counts(lots, counts)
    return rest_counts(sizes_of(lots), counts)
