"""Plain runs played move by move."""

from assentwhole.errors import NotUsable
from assentwhole.pactchecks import check_pact
from assentwhole.plainruns import Plain


def play_plain(pact, moves):
    """A plain run of pact that has done moves, one after another."""
    check_pact(pact)
    if not isinstance(moves, tuple):
        raise NotUsable("moves")
    run = Plain(pact)
    for move in moves:
        run.do(move)
    return run
