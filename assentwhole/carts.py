"""Moves that are put together, with the reign, the base and the roll that they lead to."""

from assentwhole.crowdjoins import has_houses
from assentwhole.plans import free_reign


def changes_to(charters):
    """The changes to these charters, one behind the other."""
    return tuple(("change", charter) for charter in charters)


class Cart:
    """Moves of a crowd, and of others where that is told, behind the moves of a run."""

    def __init__(self, book, crowd):
        self.book = book
        self.crowd = crowd
        self.reign = book.top_promise(crowd)
        self.base = ()
        self.roll = book.best_roll(crowd)
        self.sworn = book.base_pact[1] == "sworn"
        self.told = []

    def answer(self, kind, crowd):
        """The next reign of this kind is answered by crowd."""
        self.reign = free_reign(self.book, self.reign, kind)
        self.told.append(("answer", self.reign, crowd))

    def lay(self, crowd, known, base):
        """The reign begins with base, by the answers of crowd and what is known: a (reign, roll), or None."""
        self.base = base
        self.roll = base
        if self.sworn:
            self.told.append(("lay", self.reign, crowd, known, base))
        else:
            self.told.append(("take", self.reign, crowd, None if known is None else (known[0], len(known[1]))))

    def begin(self, kind):
        """A new reign of this kind begins with the roll, by the answers of the crowd."""
        self.begin_by(kind, self.crowd, None, self.roll)

    def begin_by(self, kind, crowd, known, base):
        """A new reign of this kind begins with base, by the answers of another crowd."""
        self.answer(kind, crowd)
        self.lay(crowd, known, base)
        if self.sworn:
            self.echo()

    def echo(self):
        """The crowd echoes the roll."""
        self.told.append(("echo", self.reign, self.base, self.roll, self.crowd))

    def write(self, deeds):
        """The reign goes on with deeds, at least one; in a sworn run the crowd echoes them."""
        self.roll = self.roll + deeds
        if self.sworn:
            self.echo()
        else:
            self.told.extend([("write", self.reign, deed) for deed in deeds])

    def keep(self):
        """The desks of the crowd get the roll."""
        self.keep_by(self.crowd)

    def keep_by(self, crowd):
        """The desks of another crowd get the roll."""
        if self.sworn:
            self.told.append(("lock", self.reign, self.base, self.roll, crowd))
        else:
            self.told.append(("store", self.reign, len(self.roll), crowd))

    def change(self, charter):
        """The reign goes on to charter, and the desks get this change."""
        self.write(changes_to([charter]))
        self.keep()

    def back(self, crowd, at):
        """The houses of crowd, if any, return to the time ahead of move number at."""
        if has_houses(crowd):
            self.told.append(("return", crowd, at))
