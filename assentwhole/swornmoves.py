"""The moves of sworn runs alone: their conditions in sequence, and what they do."""

from assentwhole.crowdjoins import has_houses
from assentwhole.deeds import begins, change_places, charter_told, is_led, last_changed, roll_fault
from assentwhole.moveforms import has_form
from assentwhole.runmoves import do_shared, is_open_look, shared_fault
from assentwhole.seals import is_sealed_from
from assentwhole.spreads import changed_spread
from assentwhole.swornbooks import lines_of
from assentwhole.values import is_integer, is_tuple


def forge_fault(book, reign, crowd, lesser, roll):
    """The conditions of forge."""
    if book.is_asleep(crowd):
        return "asleep"
    if has_houses(book.honest(crowd)):
        return "honest"
    return None if lesser < reign and book.is_lock(lesser, roll) else "lock"


def do_forge(book, reign, crowd, lesser, roll):
    """The lock is the answer of each house for reign."""
    answer = (lesser, roll)
    book.answers[reign] = changed_spread(book.lots, book.answered(reign), crowd, lambda old: answer)


def is_known(book, reign, known):
    """Whether known is None, or a lock of a lesser reign."""
    if known is None:
        return True
    if not is_tuple(known, 2) or not is_integer(known[0]):
        return False
    # A roll is one before it is looked up, so that True is not 1 in it.
    if roll_fault(len(book.base_pact[3]), known[1]) is not None:
        return False
    return known[0] < reign and known in book.locks


def is_best(book, reign, crowd, known, base):
    """Whether base is the roll of a best one of the answers of crowd, of known and of (0, ())."""
    tellings = book.answers_in(reign, crowd) + [(0, ())]
    if known is not None:
        tellings.append(known)
    best = max((other, len(roll)) for other, roll in tellings)
    return any(roll == base and (other, len(roll)) == best for other, roll in tellings)


def lay_fault(book, reign, crowd, known, base):
    """The conditions of lay."""
    if book.is_asleep(crowd):
        return "asleep"
    if reign in book.gone:
        return "gone"
    if None in book.answers_in(reign, crowd):
        return "answers"
    if not is_known(book, reign, known):
        return "known"
    if not is_best(book, reign, crowd, known, base):
        return "base"
    return None if book.takes("ask", charter_told(base), book.kind(reign), crowd) else "ask"


def do_lay(book, reign, crowd, known, base):
    """The base is laid for reign, besides others."""
    book.laid_bases[(reign, base)] = True


def has_line(book, reign, base, roll):
    """Whether base is laid for reign and begins roll."""
    return (reign, base) in book.laid_bases and begins(base, roll)


def may_change(book, line):
    """Whether the rule lets a change stand behind the roll of a line."""
    reign, _, roll = line
    if book.base_pact[2] == "own":
        return line in book.settled_lines
    if book.base_pact[2] == "calm":
        changed = last_changed(roll)
        return not changed or is_sealed_from(book.sealed, changed, reign)
    return True


def changes_fault(book, reign, base, roll):
    """The conditions of the changes in roll behind base: "change", then "rule"."""
    if not is_led(book.base_pact[4], roll, len(base)):
        return "change"
    places = [at for at in change_places(roll) if at >= len(base)]
    return None if all(may_change(book, (reign, base, roll[:at])) for at in places) else "rule"


def follows_echo(desk, reign, base, roll):
    """Whether roll goes on from what a desk has echoed for this reign, if anything."""
    return desk[3] != reign or (desk[4] == base and begins(desk[5], roll))


def echo_fault(book, reign, base, roll, crowd):
    """The conditions of echo."""
    if book.is_asleep(crowd):
        return "asleep"
    if not has_line(book, reign, base, roll):
        return "base"
    desks = book.desks_in(book.honest(crowd))
    if not desks:
        return None
    if any(desk[0] > reign for desk in desks):
        return "promise"
    if not all(follows_echo(desk, reign, base, roll) for desk in desks):
        return "line"
    return changes_fault(book, reign, base, roll)


def do_echo(book, reign, base, roll, crowd):
    """All of crowd have echoed roll; the honest ones keep to it."""
    told = (reign, base, roll)
    honest = book.honest(crowd)
    book.now = changed_spread(book.lots, book.now, honest, lambda desk: (reign,) + desk[1:3] + told)
    for line in lines_of(reign, base, roll):
        book.has_echoed(line, crowd)


def follows_lock(desk, reign, roll):
    """Whether roll is longer than the lock of a desk, if this is of reign."""
    return desk[1] != reign or (begins(desk[2], roll) and desk[2] != roll)


def lock_fault(book, reign, base, roll, crowd):
    """The conditions of lock."""
    if book.is_asleep(crowd):
        return "asleep"
    if not has_line(book, reign, base, roll):
        return "base"
    desks = book.desks_in(book.honest(crowd))
    if not desks:
        return None
    if any(desk[0] > reign for desk in desks):
        return "promise"
    if (reign, base, roll) not in book.locked_lines:
        return "lock"
    return None if all(follows_lock(desk, reign, roll) for desk in desks) else "line"


def do_lock(book, reign, base, roll, crowd):
    """All of crowd have voted roll; the honest ones have it as their lock."""
    told = (reign, reign, roll)
    honest = book.honest(crowd)
    book.now = changed_spread(book.lots, book.now, honest, lambda desk: told + desk[3:])
    for line in lines_of(reign, base, roll):
        book.has_voted(line, crowd)


def telllie_fault(book, at, crowd, reign, roll):
    """The conditions of telllie."""
    if book.is_asleep(crowd):
        return "asleep"
    if not is_open_look(book, at, "desk"):
        return "look"
    if has_houses(book.honest(crowd)):
        return "honest"
    return None if book.is_lock(reign, roll) else "lock"


def do_telllie(book, at, crowd, reign, roll):
    """The lock is what the houses tell."""
    book.sights[at].hear(crowd, [(reign, roll)])


FAULTS = {
    "forge": forge_fault, "lay": lay_fault, "echo": echo_fault, "lock": lock_fault, "telllie": telllie_fault,
}
DOINGS = {"forge": do_forge, "lay": do_lay, "echo": do_echo, "lock": do_lock, "telllie": do_telllie}


def sworn_fault(book, move):
    """The word of the first condition that move, any value, does not meet, or None."""
    if not has_form(book.base_pact, move):
        return "shape"
    parts = move[1:]
    if move[0] not in FAULTS:
        return shared_fault(book, move[0], parts)
    fault = FAULTS[move[0]]
    return fault(book, *parts)


def do_sworn(book, move):
    """Do a move whose conditions are met."""
    book.past.append(book.now)
    parts = move[1:]
    if move[0] not in DOINGS:
        do_shared(book, move[0], parts)
    else:
        doing = DOINGS[move[0]]
        doing(book, *parts)
    book.done.append(move)
