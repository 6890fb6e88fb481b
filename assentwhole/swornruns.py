"""Sworn runs: the moves of houses of which some lie."""

from assentwhole.crowds import check_crowd
from assentwhole.errors import BadMove, NotFor
from assentwhole.pactchecks import check_pact
from assentwhole.seals import first_parting
from assentwhole.swornbooks import SwornBook, longest_lines
from assentwhole.swornmoves import do_sworn, sworn_fault


class Sworn:
    """A sworn run of a pact with liars."""

    def __init__(self, pact, liars):
        check_pact(pact)
        check_crowd(pact[0], liars)
        if pact[1] != "sworn":
            raise NotFor("manner")
        self._book = SwornBook(pact, liars)

    def do(self, move):
        """Do move, or raise BadMove if one of its conditions is not met."""
        word = sworn_fault(self._book, move)
        if word is not None:
            raise BadMove(len(self._book.done), word)
        do_sworn(self._book, move)

    def moves(self):
        """The moves done."""
        return tuple(self._book.done)

    def pact(self):
        """The pact of the run."""
        return self._book.base_pact

    def liars(self):
        """The crowd of the liars."""
        return self._book.lying

    def desks(self):
        """For each lot the rows (first, end, promise, reign, roll, echo reign, echo base, echo roll)."""
        return tuple(tuple((first, end) + desk for first, end, desk in pieces) for pieces in self._book.now)

    def laid(self):
        """The ascending (reign, base) of all laid bases."""
        return tuple(sorted(self._book.laid_bases))

    def locked(self):
        """The ascending (reign, base, roll) that are locked, without those that begin longer ones."""
        return longest_lines(list(self._book.locked_lines))

    def settled(self):
        """The ascending (reign, roll) that are settled."""
        return tuple(sorted(self._book.sealed))

    def parted(self):
        """None, or the first two settled whose rolls part."""
        return first_parting(self._book.sealed)

    def awake(self):
        """The crowd of the houses that are awake."""
        return self._book.up

    def fallen(self):
        """The crowd of the fallen."""
        return self._book.down()

    def looks(self):
        """For each look its word, the roll that it has shown, and whether it is right."""
        return tuple((sight.word, sight.shown, sight.right) for sight in self._book.sights)
