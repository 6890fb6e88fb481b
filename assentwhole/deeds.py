"""Deeds and rolls: what they are, what they change, how they begin one another."""

from assentwhole.values import is_integer, is_number, is_number_to, is_tuple


def is_do(thing):
    """Whether thing is a deed that is no change."""
    if not is_tuple(thing, 5) or thing[0] != "do":
        return False
    _, client, number, name, amount = thing
    if not is_number(client) or not is_integer(number) or number < 1:
        return False
    return is_number(name) and is_integer(amount)


def is_change(many, thing):
    """Whether thing is a change to one of so many charters."""
    return is_tuple(thing, 2) and thing[0] == "change" and is_number_to(thing[1], many - 1)


def roll_fault(many, thing):
    """The first element that is no deed, -1 for all of thing, or None."""
    if not isinstance(thing, tuple):
        return -1
    for at, deed in enumerate(thing):
        if not is_do(deed) and not is_change(many, deed):
            return at
    return None


def change_places(roll):
    """The places of the changes in a roll, ascending."""
    return [at for at, deed in enumerate(roll) if deed[0] == "change"]


def charter_told(roll):
    """The charter of a roll: that of its last change, 0 without one."""
    for deed in reversed(roll):
        if deed[0] == "change":
            return deed[1]
    return 0


def last_changed(roll):
    """The deeds of a roll up to and with its last change, () without one."""
    places = change_places(roll)
    return roll[:places[-1] + 1] if places else ()


def begins(one, two):
    """Whether the roll one begins the roll two."""
    return one == two[:len(one)]


def is_led(changes, roll, start):
    """Whether each change in roll from start on is to a charter that may follow the one ahead."""
    charter = charter_told(roll[:start])
    for deed in roll[start:]:
        if deed[0] == "change":
            if deed[1] not in changes[charter]:
                return False
            charter = deed[1]
    return True
