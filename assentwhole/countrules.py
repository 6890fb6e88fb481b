"""What counts are, and reckoning with counts that are known to be such."""

from assentwhole.values import is_number_to, is_tuple


def counts_fault(sizes, thing):
    """The first lot whose number is wrong, -1 for all of thing, or None."""
    if not is_tuple(thing, len(sizes)):
        return -1
    for at, size in enumerate(sizes):
        if not is_number_to(thing[at], size):
            return at
    return None


def is_below(one, two):
    """Whether no number of one is greater than that of two."""
    for low, high in zip(one, two):
        if low > high:
            return False
    return True


def common_counts(sizes, one, two):
    """The least that crowds with these counts have in common."""
    return tuple(max(0, one[at] + two[at] - size) for at, size in enumerate(sizes))


def rest_counts(sizes, counts):
    """The sizes less the counts."""
    return tuple(size - counts[at] for at, size in enumerate(sizes))


def joined_counts(one, two):
    """The least counts that both one and two are below."""
    return tuple(max(here, there) for here, there in zip(one, two))
