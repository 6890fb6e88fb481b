"""Schemes: machines that go by tables, checked and run."""

from assentwhole.errors import BadMove, BadScheme, NotUsable
from assentwhole.machines import Machines, are_houses, is_run_alone, scheme_fault
from assentwhole.values import is_number_to


def check_scheme(thing):
    """How many houses the scheme thing has; BadScheme if it is no scheme."""
    fault = scheme_fault(thing)
    if fault is not None:
        raise BadScheme(fault[0], fault[1])
    return thing[0]


def run_scheme(scheme, liars, moves):
    """The states, the letters, which clients have ended, and the fallen, behind moves."""
    check_scheme(scheme)
    if not are_houses(scheme[0], liars):
        raise NotUsable("liars")
    if not isinstance(moves, tuple):
        raise NotUsable("moves")
    machines = Machines(scheme, liars)
    for at, move in enumerate(moves):
        word = machines.fault(move)
        if word is not None:
            raise BadMove(at, word)
        machines.do(move)
    return machines.outcome()


def runs_alone(scheme, crowd, client, thing):
    """Whether thing is moves of crowd and client alone."""
    check_scheme(scheme)
    if not are_houses(scheme[0], crowd):
        raise NotUsable("crowd")
    if not is_number_to(client, 1):
        raise NotUsable("client")
    return is_run_alone(scheme, crowd, client, thing)
