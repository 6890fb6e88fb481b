"""Pacts read from text, line by line."""

from assentwhole.errors import BadText, NotUsable
from assentwhole.pactchecks import LEFT_OUT, RULES, STEPS, check_pact
from assentwhole.trustreading import trust_told
from assentwhole.values import is_word, number_told

# The first words that may stand behind a line with this one; "" is ahead of all lines.
NEXT = {
    "": ("manner",),
    "manner": ("rule",),
    "rule": ("lot",),
    "lot": ("lot", "trust", "charter"),
    "trust": ("trust", "charter"),
    "charter": ("row",),
    "row": ("row", "charter", "change"),
    "change": ("change",),
}
LAST = ("row", "change")


def words_in(text):
    """The words of text, which blanks part."""
    return [word for word in text.split(" ") if word]


class PactReader:
    """What the lines of a text have told so far; each method takes a line and tells whether it may."""

    def __init__(self):
        self.last = ""
        self.manner = None
        self.rule = None
        self.lots = []
        self.trusts = []
        self.charter_words = []
        self.rows = []
        self.changes = {}

    def take(self, line):
        """Take a line that is not passed over; the word of its fault, or None."""
        first = words_in(line)[0]
        if first not in NEXT[self.last]:
            return "place"
        if first == "trust":
            right = self.take_trust(line)
        elif first == "row":
            right = self.take_row(line)
        else:
            right = self.take_words(words_in(line))
        self.last = first
        return None if right else "line"

    def take_words(self, words):
        """A line that is words alone."""
        if words[0] == "change":
            return self.take_change(words)
        if words[0] == "lot":
            return len(words) == 3 and self.take_lot(words[1], words[2])
        if len(words) != 2:
            return False
        if words[0] == "manner":
            self.manner = words[1]
            return words[1] in LEFT_OUT
        if words[0] == "rule":
            self.rule = words[1]
            return words[1] in RULES
        return self.take_charter(words[1])

    def is_taken(self, word):
        """Whether a lot or a trust has this word."""
        return any(word == pair[0] for pair in self.lots + self.trusts)

    def take_lot(self, word, told):
        """A lot: its word and its size."""
        size = number_told(told)
        if not is_word(word) or self.is_taken(word) or size is None or size < 1:
            return False
        self.lots.append((word, size))
        return True

    def read_trust_told(self, text):
        """The trust that text tells with the names so far, or None."""
        try:
            return trust_told(tuple(self.lots), tuple(self.trusts), text)
        except BadText:
            return None

    def take_trust(self, line):
        """A trust with a name for later lines."""
        head, _, told = line.partition("=")
        words = words_in(head)
        if len(words) != 2 or not is_word(words[1]) or self.is_taken(words[1]):
            return False
        trust = self.read_trust_told(told)
        if trust is None:
            return False
        self.trusts.append((words[1], trust))
        return True

    def take_charter(self, word):
        """The beginning of a charter, whose rows follow."""
        if not is_word(word) or word in self.charter_words:
            return False
        self.charter_words.append(word)
        self.rows.append([])
        return True

    def take_row(self, line):
        """A row of the last charter: its steps, parted by ;."""
        # The first word, row, may have blanks ahead; it stands in no step.
        parts = line.strip(" ")[3:].split(";")
        steps = [step for step in STEPS if step != LEFT_OUT[self.manner]]
        if len(parts) != len(steps):
            return False
        row = {}
        for step, part in zip(steps, parts):
            word, _, told = part.strip(" ").partition(" ")
            row[step] = self.read_trust_told(told)
            if word != step or row[step] is None:
                return False
        self.rows[-1].append(tuple(row.get(step) for step in STEPS))
        return True

    def take_change(self, words):
        """The charters that may follow one."""
        if len(words) < 4 or words[2] != "to":
            return False
        named = [words[1]] + words[3:]
        if not all(word in self.charter_words for word in named) or len(set(named)) < len(named):
            return False
        places = [self.charter_words.index(word) for word in named]
        if places[0] in self.changes:
            return False
        self.changes[places[0]] = tuple(sorted(places[1:]))
        return True

    def told_pact(self):
        """The pact that the lines told, not checked yet."""
        charters = tuple(tuple(rows) for rows in self.rows)
        changes = tuple(self.changes.get(charter, ()) for charter in range(len(charters)))
        return tuple(self.lots), self.manner, self.rule, charters, changes


def is_passed_over(line):
    """Whether a line has nothing to tell: blanks alone, or # first."""
    told = line.strip(" ")
    return not told or told[0] == "#"


def read_pact(text):
    """The pair of the pact that text tells, and the words of its charters."""
    if not isinstance(text, str):
        raise NotUsable("text")
    reader = PactReader()
    lines = text.split("\n")
    for at, line in enumerate(lines):
        if not is_passed_over(line):
            word = reader.take(line)
            if word is not None:
                raise BadText(at, word)
    if reader.last not in LAST:
        raise BadText(len(lines), "place")
    pact = reader.told_pact()
    check_pact(pact)
    return pact, tuple(reader.charter_words)
