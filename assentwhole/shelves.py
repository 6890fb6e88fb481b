"""Shelves, on which texts of pacts are kept under words."""

from assentwhole.errors import NoSuch, NothingToUndo, NotUsable, Taken
from assentwhole.pactreading import read_pact
from assentwhole.values import is_word


def require_word(thing):
    """NotUsable if thing is no word."""
    if not is_word(thing):
        raise NotUsable("word")


def require_text(thing):
    """NotUsable if thing is no string."""
    if not isinstance(thing, str):
        raise NotUsable("text")


class Shelf:
    """Texts of pacts under words; what was done may be taken back."""

    def __init__(self):
        # For each word its text, the pact that this tells, and the words of the charters.
        self._rows = {}
        # For each put, change and drop its word, and the row that this had before, or None.
        self._before = []

    def put(self, word, text):
        """Keep text under word."""
        require_word(word)
        require_text(text)
        if word in self._rows:
            raise Taken(word)
        self._keep(word, (text,) + read_pact(text))

    def change(self, word, text):
        """Put text in the place of the text under word."""
        require_word(word)
        require_text(text)
        self.row_of(word)
        self._keep(word, (text,) + read_pact(text))

    def drop(self, word):
        """Take the text under word away."""
        require_word(word)
        self.row_of(word)
        self._keep(word, None)

    def undo(self):
        """Take back the last put, change or drop that is not taken back yet."""
        if not self._before:
            raise NothingToUndo()
        word, row = self._before.pop()
        self._stand(word, row)

    def words(self):
        """The ascending words that have a text."""
        return tuple(sorted(self._rows))

    def text_of(self, word):
        """The text under word."""
        require_word(word)
        return self.row_of(word)[0]

    def pact_of(self, word):
        """The pact that the text under word tells."""
        require_word(word)
        return self.row_of(word)[1]

    def row_of(self, word):
        """The text under word, its pact, and the words of its charters; NoSuch if there is none."""
        if word not in self._rows:
            raise NoSuch(word)
        return self._rows[word]

    def _stand(self, word, row):
        """From now on word has this row, or none."""
        if row is None:
            del self._rows[word]
        else:
            self._rows[word] = row

    def _keep(self, word, row):
        """Word gets a row, or none, which may be taken back."""
        self._before.append((word, self._rows.get(word)))
        self._stand(word, row)
