"""The forms of moves: which parts they have, and what each part has to be."""

from assentwhole.crowdjoins import has_houses
from assentwhole.crowds import crowd_fault
from assentwhole.deeds import is_change, is_do, roll_fault
from assentwhole.lots import sizes_of
from assentwhole.pactparts import kinds_in
from assentwhole.values import is_number, is_number_to

PLAIN_FORMS = {
    "answer": ("reign", "crowd"),
    "take": ("reign", "crowd", "known"),
    "write": ("reign", "deed"),
    "store": ("reign", "number", "crowd"),
    "return": ("crowd", "number"),
    "open": ("kind",),
    "tell": ("number", "crowd"),
    "show": ("number",),
    "openhead": ("reign",),
    "tellhead": ("number", "crowd"),
    "showhead": ("number", "number"),
}
SWORN_FORMS = {
    "answer": ("reign", "crowd"),
    "forge": ("reign", "crowd", "number", "roll"),
    "lay": ("reign", "crowd", "known", "roll"),
    "echo": ("reign", "roll", "roll", "crowd"),
    "lock": ("reign", "roll", "roll", "crowd"),
    "return": ("crowd", "number"),
    "open": ("kind",),
    "tell": ("number", "crowd"),
    "telllie": ("number", "crowd", "number", "roll"),
    "show": ("number",),
}


def form_of(pact, word):
    """The form of moves with this word in runs of the pact, or None."""
    return PLAIN_FORMS.get(word) if pact[1] == "plain" else SWORN_FORMS.get(word)


def is_some_crowd(pact, thing):
    """Whether thing is a crowd of at least one house."""
    return crowd_fault(sizes_of(pact[0]), thing) is None and has_houses(thing)


def is_part(pact, word, thing):
    """Whether thing is what a form calls word."""
    if word == "reign":
        return is_number(thing) and thing > 0
    if word == "number":
        return is_number(thing)
    if word == "kind":
        return is_number_to(thing, kinds_in(pact) - 1)
    if word == "crowd":
        return is_some_crowd(pact, thing)
    if word == "deed":
        return is_do(thing) or is_change(len(pact[3]), thing)
    if word == "roll":
        return roll_fault(len(pact[3]), thing) is None
    # What is known may be anything here; it has a condition of its own.
    return True


def has_form(pact, move):
    """Whether move, which may be any value, has the form of a move in runs of the pact."""
    if not isinstance(move, tuple) or not move or not isinstance(move[0], str):
        return False
    form = form_of(pact, move[0])
    if form is None or len(move) != len(form) + 1:
        return False
    return all(is_part(pact, word, thing) for word, thing in zip(form, move[1:]))
