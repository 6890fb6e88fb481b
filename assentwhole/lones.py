"""Lone charters: those that suit themselves."""

from assentwhole.pactchecks import check_pact
from assentwhole.suiting import Suits
from assentwhole.wishes import wish_stair


def lone_charters(pact, wish):
    """The ascending tuple of the charters, come to or not, that suit themselves."""
    check_pact(pact)
    return tuple(Suits(pact, wish_stair(pact[0], wish)).lone())
