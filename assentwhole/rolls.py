"""Rolls of a pact: checked, asked for their charter, and whether they follow."""

from assentwhole.deeds import charter_told, is_led, roll_fault
from assentwhole.errors import BadRoll
from assentwhole.pactchecks import check_pact


def check_roll(pact, thing):
    """How many deeds the roll thing has; BadRoll if it is not a roll."""
    fault = roll_fault(check_pact(pact), thing)
    if fault is not None:
        raise BadRoll(fault)
    return len(thing)


def charter_of(pact, roll):
    """The charter of roll."""
    check_roll(pact, roll)
    return charter_told(roll)


def follows(pact, roll):
    """Whether each change of roll is to a charter that may follow the one ahead of it."""
    check_roll(pact, roll)
    return is_led(pact[4], roll, 0)
