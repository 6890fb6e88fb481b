"""Moves that plain and sworn runs share: their conditions, and what they do.

Each condition function has the parts of the move behind the run's book, and
returns the word of the first condition that is not met, or None.
"""

from assentwhole.crowdjoins import joined_houses
from assentwhole.deeds import charter_told
from assentwhole.sights import Sight
from assentwhole.spreads import changed_spread, spread_from


def answer_fault(book, reign, crowd):
    """The conditions of answer."""
    if book.is_asleep(crowd):
        return "asleep"
    if book.has_liars(crowd):
        return "liar"
    return None if book.top_promise(crowd) < reign else "promise"


def do_answer(book, reign, crowd):
    """The promises become reign; the answers are what the desks have."""
    answers = spread_from(book.lots, book.answered(reign), crowd, book.now)
    book.answers[reign] = changed_spread(book.lots, answers, crowd, lambda desk: desk[1:3])
    book.now = changed_spread(book.lots, book.now, crowd, lambda desk: (reign,) + desk[1:])


def return_fault(book, crowd, at):
    """The conditions of return."""
    if book.is_stretch:
        return "asleep"
    if book.has_liars(crowd):
        return "liar"
    return None if at <= len(book.done) else "at"


def do_return(book, crowd, at):
    """The houses get the desks that they had ahead of move number at."""
    if at < len(book.done):
        book.now = spread_from(book.lots, book.now, crowd, book.past[at])
    book.returned = joined_houses(book.returned, crowd)


def open_fault(book, kind):
    """A look may always be opened."""
    return None


def do_open(book, kind):
    """A desk look of this kind begins."""
    book.sights.append(Sight("desk", kind, 0, len(book.sealed), book.nobody))


def is_open_look(book, at, word):
    """Whether look number at is a desk or head look, as word says, that has not shown."""
    return at < len(book.sights) and book.sights[at].word == word and book.sights[at].shown is None


def tell_fault(book, at, crowd):
    """The conditions of tell."""
    if book.is_asleep(crowd):
        return "asleep"
    if not is_open_look(book, at, "desk"):
        return "look"
    return "liar" if book.has_liars(crowd) else None


def do_tell(book, at, crowd):
    """Each house tells its (reign, roll)."""
    book.sights[at].hear(crowd, [desk[1:3] for desk in book.desks_in(crowd)])


def show_fault(book, at):
    """The conditions of show."""
    if not is_open_look(book, at, "desk"):
        return "look"
    sight = book.sights[at]
    best = sight.best()
    if not book.takes("look", charter_told(best[1]), sight.aim, sight.tellers):
        return "tellers"
    return None if best == (0, ()) or best in book.sealed else "settled"


def do_show(book, at):
    """The look shows the best roll that was told to it."""
    sight = book.sights[at]
    sight.show(book.sealed, sight.best()[1])


FAULTS = {
    "answer": answer_fault, "return": return_fault, "open": open_fault, "tell": tell_fault, "show": show_fault,
}
DOINGS = {"answer": do_answer, "return": do_return, "open": do_open, "tell": do_tell, "show": do_show}


def shared_fault(book, word, parts):
    """The word of the first condition that a move of both manners does not meet, or None."""
    fault = FAULTS[word]
    return fault(book, *parts)


def do_shared(book, word, parts):
    """Do a move of both manners whose conditions are met."""
    doing = DOINGS[word]
    doing(book, *parts)
