"""Plain runs: the moves of houses that all keep to what they are told."""

from assentwhole.errors import BadMove, NotFor
from assentwhole.pactchecks import check_pact
from assentwhole.plainbooks import PlainBook
from assentwhole.plainmoves import do_plain, plain_fault
from assentwhole.seals import first_parting


class Plain:
    """A plain run of a pact."""

    def __init__(self, pact):
        check_pact(pact)
        if pact[1] != "plain":
            raise NotFor("manner")
        self._book = PlainBook(pact)

    def do(self, move):
        """Do move, or raise BadMove if one of its conditions is not met."""
        word = plain_fault(self._book, move)
        if word is not None:
            raise BadMove(len(self._book.done), word)
        do_plain(self._book, move)

    def moves(self):
        """The moves done."""
        return tuple(self._book.done)

    def pact(self):
        """The pact of the run."""
        return self._book.base_pact

    def desks(self):
        """For each lot the rows (first, end, promise, reign, roll)."""
        return tuple(tuple((first, end) + desk for first, end, desk in pieces) for pieces in self._book.now)

    def rolls(self):
        """The ascending (reign, length of its base, roll)."""
        return tuple((reign, base, roll) for reign, (base, roll) in sorted(self._book.reigns.items()))

    def settled(self):
        """The ascending (reign, many) that are settled."""
        return tuple((reign, len(roll)) for reign, roll in sorted(self._book.sealed))

    def parted(self):
        """None, or the first two settled whose rolls part."""
        found = first_parting(self._book.sealed)
        if found is None:
            return None
        return tuple((reign, len(roll)) for reign, roll in found)

    def awake(self):
        """The crowd of the houses that are awake."""
        return self._book.up

    def fallen(self):
        """The crowd of the fallen."""
        return self._book.down()

    def looks(self):
        """For each look its word, the roll that it has shown, and whether it is right."""
        return tuple((sight.word, sight.shown, sight.right) for sight in self._book.sights)
