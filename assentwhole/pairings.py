"""The pairs of charters whose rolls may stand side by side."""

from assentwhole.comings import reached_from
from assentwhole.pactchecks import check_pact


def are_near(changes, one, two):
    """Whether the charters are one, or one of them may follow the other."""
    return one == two or two in changes[one] or one in changes[two]


def have_source(changes, come, one, two):
    """Whether both may follow one charter that is come to."""
    return any(one in changes[charter] and two in changes[charter] for charter in come)


def are_paired(pact, come, one, two):
    """Whether two charters that are come to are a pair by the rule of the pact."""
    if pact[2] == "bold" or are_near(pact[4], one, two):
        return True
    return pact[2] == "calm" and have_source(pact[4], come, one, two)


def charter_pairs(pact):
    """The ascending pairs of a pact that is known to be one."""
    come = reached_from(pact[4], 0)
    return tuple((one, two) for one in come for two in come if are_paired(pact, come, one, two))


def pairs_of(pact):
    """The ascending tuple of the pairs of pact."""
    check_pact(pact)
    return charter_pairs(pact)
