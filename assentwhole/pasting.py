"""Runs of a scheme pasted: two crowds that each end one client alone, and both clients ended."""

from assentwhole.errors import NotUsable
from assentwhole.machines import Machines, are_houses, is_run_alone
from assentwhole.schemes import check_scheme
from assentwhole.values import is_tuple


def require_alone(scheme, client, thing, word):
    """NotUsable(word) if thing is no pair of a crowd and moves of it and this client alone."""
    if not is_tuple(thing, 2) or not are_houses(scheme[0], thing[0]):
        raise NotUsable(word)
    if not is_run_alone(scheme, thing[0], client, thing[1]):
        raise NotUsable(word)


def moves_behind(scheme, silent, moves, ahead):
    """Moves done alone as they are done behind so many letters; and how many letters they write.

    What the silent houses would write is said, as they may take nothing: so
    each letter has its number among those of these moves as before.
    """
    machines = Machines(scheme, ())
    found = []
    for move in moves:
        written = len(machines.letters)
        machines.do(move)
        if move[0] == "begin":
            found.append(move)
        elif machines.receiver(move[1]) in silent:
            found.extend([("say",) + letter for letter in machines.letters[written:]])
        else:
            found.append(("bring", move[1] + ahead))
    return tuple(found), len(machines.letters)


def paste(scheme, manner, one, two):
    """Liars and moves behind which both clients have ended, all fallen in both crowds."""
    check_scheme(scheme)
    if manner not in ("plain", "sworn"):
        raise NotUsable("manner")
    require_alone(scheme, 0, one, "one")
    require_alone(scheme, 1, two, "two")
    shared = tuple(house for house in one[0] if house in two[0])
    liars = shared if manner == "sworn" else ()
    first, ahead = moves_behind(scheme, liars, one[1], 0)
    second, _ = moves_behind(scheme, liars, two[1], ahead)
    if manner == "plain":
        return liars, first + tuple(("return", house) for house in shared) + second
    return liars, first + second
