"""Papers: why two trusts meet for a wish, or counts at which they do not."""

from assentwhole.lots import sizes_of
from assentwhole.papercases import PLACES, PaperCase
from assentwhole.trustchecks import check_trust


def open_word(case, box):
    """The trust that holds at its high and not at its low in box; None if both hold at their lows."""
    for word in ("first", "second"):
        if not case.holds_at(word, box[PLACES[word]]):
            return word
    return None


def node_of(case, word, box):
    """The node that parts box by an atom of the trust called word."""
    at = PLACES[word]
    lot, number = case.sides[word].middle(box[at], box[at + 1])
    return word, lot, number


def paper_of(case):
    """The paper of a case: boxes are parted until each has a leaf, or one shows that it is open."""
    waiting = [case.box]
    tree = []
    while waiting:
        box = waiting.pop()
        entry = case.leaf_of(box)
        if entry is None:
            word = open_word(case, box)
            if word is None:
                return "open", box[0], box[2]
            entry = node_of(case, word, box)
            less, more = case.halves(entry, box)
            waiting.append(more)
            waiting.append(less)
        tree.append(entry)
    return "closed", tuple(tree)


def paper(lots, first, second, wish):
    """A paper, open or closed, that is_paper accepts for these."""
    for trust in (first, second, wish):
        check_trust(lots, trust)
    return paper_of(PaperCase(sizes_of(lots), first, second, wish))
