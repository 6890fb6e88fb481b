"""Sworn runs played move by move."""

from assentwhole.crowds import check_crowd
from assentwhole.errors import NotUsable
from assentwhole.pactchecks import check_pact
from assentwhole.swornruns import Sworn


def play_sworn(pact, liars, moves):
    """A sworn run of pact with liars that has done moves, one after another."""
    check_pact(pact)
    check_crowd(pact[0], liars)
    if not isinstance(moves, tuple):
        raise NotUsable("moves")
    run = Sworn(pact, liars)
    for move in moves:
        run.do(move)
    return run
