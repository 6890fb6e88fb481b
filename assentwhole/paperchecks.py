"""Papers checked."""

from assentwhole.countrules import counts_fault
from assentwhole.lots import sizes_of
from assentwhole.papercases import PaperCase
from assentwhole.trustchecks import check_trust
from assentwhole.values import is_tuple

LEAVES = (("first",), ("second",), ("wish",))


def is_open(case, thing):
    """Whether the triple thing has counts at which both trusts hold, and the wish not in common."""
    _, one, two = thing
    if counts_fault(case.sizes, one) is not None or counts_fault(case.sizes, two) is not None:
        return False
    if not case.holds_at("first", one) or not case.holds_at("second", two):
        return False
    return not case.wish_holds(one, two)


def is_closed(case, tree):
    """Whether tree is the entries of one tree, each right at its box."""
    if not isinstance(tree, tuple):
        return False
    waiting = [case.box]
    for entry in tree:
        if not waiting:
            return False
        box = waiting.pop()
        if entry in LEAVES:
            if not case.is_leaf(entry[0], box):
                return False
        elif case.is_node(entry, box):
            less, more = case.halves(entry, box)
            waiting.append(more)
            waiting.append(less)
        else:
            return False
    return not waiting


def accepts(case, thing):
    """Whether thing is a paper of the case."""
    if is_tuple(thing, 3) and thing[0] == "open":
        return is_open(case, thing)
    return is_tuple(thing, 2) and thing[0] == "closed" and is_closed(case, thing[1])


def is_paper(lots, first, second, wish, thing):
    """Whether thing is a paper for first, second and wish."""
    for trust in (first, second, wish):
        check_trust(lots, trust)
    return accepts(PaperCase(sizes_of(lots), first, second, wish), thing)
