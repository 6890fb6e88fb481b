"""Pacts written as text."""

from assentwhole.errors import NotUsable
from assentwhole.pactchecks import check_pact
from assentwhole.pactparts import steps_in, trust_at
from assentwhole.trusttexts import text_of_trust
from assentwhole.values import is_tuple, is_word


def are_words(many, thing):
    """Whether thing is a tuple of so many different words."""
    return is_tuple(thing, many) and all(is_word(word) for word in thing) and len(set(thing)) == many


def row_line(pact, charter, kind):
    """The line of one row."""
    steps = steps_in(pact)
    told = [step + " " + text_of_trust(pact[0], trust_at(pact, step, charter, kind)) for step in steps]
    return "row " + " ; ".join(told)


def charter_lines(pact, words):
    """The lines of the charters, each with its rows behind it."""
    found = []
    for charter, word in enumerate(words):
        found.append("charter " + word)
        found.extend([row_line(pact, charter, kind) for kind in range(len(pact[3][charter]))])
    return found


def change_lines(pact, words):
    """The lines of the charters that some may follow."""
    found = []
    for charter, followers in enumerate(pact[4]):
        if followers:
            told = [words[other] for other in followers]
            found.append(f"change {words[charter]} to " + " ".join(told))
    return found


def pact_text(pact, words):
    """The text of pact in which the charters have these words."""
    if not are_words(check_pact(pact), words):
        raise NotUsable("words")
    lines = ["manner " + pact[1], "rule " + pact[2]]
    lines.extend([f"lot {word} {size}" for word, size in pact[0]])
    lines.extend(charter_lines(pact, words))
    lines.extend(change_lines(pact, words))
    return "\n".join(lines)
