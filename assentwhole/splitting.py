"""The splitters: the crowds that can make two rolls out of one."""

from assentwhole.entrylists import couple_of, entries_in
from assentwhole.pactchecks import check_pact
from assentwhole.pactstairs import PactStairs


def splitter_stair(pact):
    """The stair of the splitters of a pact that is known to be one."""
    stairs = PactStairs(pact)
    return stairs.commons([couple_of(stairs, entry) for entry in entries_in(pact)])


def splitters(pact):
    """The stair of the splitters of pact."""
    check_pact(pact)
    return splitter_stair(pact)
