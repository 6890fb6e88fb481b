"""Crowds joined: either, both, one less the other, one within the other."""

from assentwhole.crowds import check_crowd
from assentwhole.lots import check_lots
from assentwhole.spans import joined_spans, other_spans, shared_spans


def all_houses(lots):
    """The crowd of all houses."""
    check_lots(lots)
    return tuple(((0, size),) for word, size in lots)


def no_houses(lots):
    """The crowd without houses."""
    return ((),) * check_lots(lots)


def check_two(lots, one, two):
    """BadCrowd for the first of the two that is not a crowd."""
    check_crowd(lots, one)
    check_crowd(lots, two)


def less_houses(lots, one, two):
    """The crowd of the houses in one and not in two, both known as crowds."""
    rest = [other_spans(lot[1], two[at]) for at, lot in enumerate(lots)]
    return tuple(shared_spans(one[at], spans) for at, spans in enumerate(rest))


def joined_houses(one, two):
    """The crowd of the houses in one or in two, both known as crowds."""
    return tuple(joined_spans(here + there) for here, there in zip(one, two))


def shared_houses(one, two):
    """The crowd of the houses in one and in two, both known as crowds."""
    return tuple(shared_spans(here, there) for here, there in zip(one, two))


def has_houses(crowd):
    """Whether a crowd that is known as one has at least one house."""
    return any(len(spans) > 0 for spans in crowd)


def crowd_either(lots, one, two):
    """The crowd of the houses in one or in two."""
    check_two(lots, one, two)
    return joined_houses(one, two)


def crowd_both(lots, one, two):
    """The crowd of the houses in one and in two."""
    check_two(lots, one, two)
    return shared_houses(one, two)


def crowd_less(lots, one, two):
    """The crowd of the houses in one and not in two."""
    check_two(lots, one, two)
    return less_houses(lots, one, two)


def crowd_within(lots, one, two):
    """Whether each house of one is in two."""
    check_two(lots, one, two)
    return not has_houses(less_houses(lots, one, two))
