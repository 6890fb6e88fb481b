"""The moves of plain runs alone: their conditions in sequence, and what they do."""

from assentwhole.deeds import charter_told, last_changed
from assentwhole.moveforms import has_form
from assentwhole.runmoves import do_shared, is_open_look, shared_fault
from assentwhole.seals import is_sealed_from
from assentwhole.sights import Sight, best_telling
from assentwhole.spreads import changed_spread
from assentwhole.values import is_integer, is_tuple


def base_of(book, reign, crowd, known):
    """The roll with which reign begins by the answers of crowd and by what is known."""
    tellings = book.answers_in(reign, crowd) + [(0, ())]
    if known is not None:
        tellings.append((known[0], book.roll_of(known[0])[:known[1]]))
    return best_telling(tellings)[1]


def is_known(book, reign, known):
    """Whether known is None, or the first deeds of a lesser reign's roll."""
    if known is None:
        return True
    if not is_tuple(known, 2) or not is_integer(known[0]) or not is_integer(known[1]):
        return False
    lesser, many = known
    return lesser < reign and lesser in book.reigns and book.has_length(lesser, many)


def take_fault(book, reign, crowd, known):
    """The conditions of take."""
    if book.is_asleep(crowd):
        return "asleep"
    if reign in book.gone:
        return "gone"
    if reign in book.reigns:
        return "taken"
    if None in book.answers_in(reign, crowd):
        return "answers"
    if not is_known(book, reign, known):
        return "known"
    charter = charter_told(base_of(book, reign, crowd, known))
    return None if book.takes("ask", charter, book.kind(reign), crowd) else "ask"


def do_take(book, reign, crowd, known):
    """The reign has a roll: its base."""
    base = base_of(book, reign, crowd, known)
    book.reigns[reign] = (len(base), base)


def may_change(book, reign, roll):
    """Whether the rule lets a change stand behind roll, the roll of reign."""
    if book.base_pact[2] == "own":
        return book.is_settled(reign, len(roll))
    if book.base_pact[2] == "calm":
        changed = last_changed(roll)
        return not changed or is_sealed_from(book.sealed, changed, reign)
    return True


def write_fault(book, reign, deed):
    """The conditions of write."""
    if reign not in book.reigns:
        return "roll"
    if deed[0] != "change":
        return None
    roll = book.roll_of(reign)
    if deed[1] not in book.base_pact[4][charter_told(roll)]:
        return "change"
    return None if may_change(book, reign, roll) else "rule"


def do_write(book, reign, deed):
    """The deed is put behind the roll."""
    base, roll = book.reigns[reign]
    book.reigns[reign] = (base, roll + (deed,))


def store_fault(book, reign, many, crowd):
    """The conditions of store."""
    if book.is_asleep(crowd):
        return "asleep"
    if reign not in book.reigns:
        return "roll"
    if not book.has_length(reign, many):
        return "length"
    if book.top_promise(crowd) > reign:
        return "promise"
    if any(desk[1] == reign and len(desk[2]) >= many for desk in book.desks_in(crowd)):
        return "stored"
    return None


def do_store(book, reign, many, crowd):
    """The desks have so many deeds of the roll of reign, which may then be settled."""
    desk = (reign, reign, book.roll_of(reign)[:many])
    book.now = changed_spread(book.lots, book.now, crowd, lambda old: desk)
    book.keep(reign, many, crowd)


def openhead_fault(book, reign):
    """The condition of openhead."""
    return None if reign in book.reigns else "roll"


def do_openhead(book, reign):
    """A head look of this reign begins; the length of its roll is noted."""
    book.sights.append(Sight("head", reign, len(book.roll_of(reign)), len(book.sealed), book.nobody))


def tellhead_fault(book, at, crowd):
    """The conditions of tellhead."""
    if book.is_asleep(crowd):
        return "asleep"
    if not is_open_look(book, at, "head"):
        return "look"
    return None if book.top_promise(crowd) <= book.sights[at].aim else "promise"


def do_tellhead(book, at, crowd):
    """The houses tell that they promised no greater reign."""
    book.sights[at].hear(crowd, [])


def showhead_fault(book, at, many):
    """The conditions of showhead."""
    if not is_open_look(book, at, "head"):
        return "look"
    sight = book.sights[at]
    roll = book.roll_of(sight.aim)
    if not sight.noted <= many <= len(roll):
        return "length"
    if not book.is_settled(sight.aim, many):
        return "settled"
    charter = charter_told(roll[:many])
    return None if book.takes("hold", charter, book.kind(sight.aim), sight.tellers) else "tellers"


def do_showhead(book, at, many):
    """The look shows the first deeds of the roll of its reign."""
    sight = book.sights[at]
    sight.show(book.sealed, book.roll_of(sight.aim)[:many])


FAULTS = {
    "take": take_fault, "write": write_fault, "store": store_fault, "openhead": openhead_fault,
    "tellhead": tellhead_fault, "showhead": showhead_fault,
}
DOINGS = {
    "take": do_take, "write": do_write, "store": do_store, "openhead": do_openhead, "tellhead": do_tellhead,
    "showhead": do_showhead,
}


def plain_fault(book, move):
    """The word of the first condition that move, any value, does not meet, or None."""
    if not has_form(book.base_pact, move):
        return "shape"
    parts = move[1:]
    if move[0] not in FAULTS:
        return shared_fault(book, move[0], parts)
    fault = FAULTS[move[0]]
    return fault(book, *parts)


def do_plain(book, move):
    """Do a move whose conditions are met."""
    book.past.append(book.now)
    parts = move[1:]
    if move[0] not in DOINGS:
        do_shared(book, move[0], parts)
    else:
        doing = DOINGS[move[0]]
        doing(book, *parts)
    book.done.append(move)
