"""Trusts read from text."""

from assentwhole.errors import BadText, NotUsable
from assentwhole.lots import check_lots, sizes_of
from assentwhole.mirrors import mirrored
from assentwhole.trustchecks import is_trust
from assentwhole.values import LETTERS_AND_FIGURES, is_tuple, is_word, number_told

# A reader calls itself for each bracket; no text that is let has nearly so many open.
MOST_BRACKETS = 60


def signs_of(text):
    """The signs of text in sequence; BadText if it has another character."""
    signs = []
    run = ""
    for sign in text + " ":
        if sign in LETTERS_AND_FIGURES:
            run += sign
            continue
        if run:
            signs.append(run)
            run = ""
        if sign in "(),|":
            signs.append(sign)
        elif sign != " ":
            raise BadText(0, "trust")
    return signs


def brackets_open(signs):
    """How many brackets are open at once, where most are."""
    most = now = 0
    for sign in signs:
        if sign == "(":
            now += 1
        if sign == ")":
            now -= 1
        most = max(most, now)
    return most


class TrustReader:
    """Reads the signs of one text from the left; BadText where they do not fit."""

    def __init__(self, lots, names, signs):
        self.sizes = sizes_of(lots)
        self.places = {lot[0]: at for at, lot in enumerate(lots)}
        self.names = {word: trust for word, trust in names}
        self.signs = signs
        self.at = 0

    def ahead(self):
        """The next sign, "" at the end."""
        return self.signs[self.at] if self.at < len(self.signs) else ""

    def take(self):
        """The next sign, which is then behind."""
        sign = self.ahead()
        self.at += 1
        return sign

    def expect(self, sign):
        """Take this very sign."""
        if self.take() != sign:
            raise BadText(0, "trust")

    def number(self):
        """Take a number."""
        told = number_told(self.take())
        if told is None:
            raise BadText(0, "trust")
        return told

    def lot(self):
        """Take the word of a lot; its place."""
        place = self.places.get(self.take())
        if place is None:
            raise BadText(0, "trust")
        return place

    def listed(self, read, gap):
        """Take a list in brackets: what read takes, parted by gap."""
        self.expect("(")
        if self.ahead() == ")":
            self.at += 1
            return ()
        rows = [read()]
        while self.ahead() == gap:
            self.at += 1
            rows.append(read())
        self.expect(")")
        return tuple(rows)

    def member(self):
        """Take a member of a stair; its counts."""
        counts = [0 for size in self.sizes]
        if self.ahead() == "nobody":
            self.at += 1
            return tuple(counts)
        last = -1
        while last < 0 or self.ahead() not in ("|", ")"):
            number = self.number()
            place = self.lot()
            if place <= last or not 1 <= number <= self.sizes[place]:
                raise BadText(0, "trust")
            counts[place] = number
            last = place
        return tuple(counts)

    def weighted(self):
        """Take a weight and the part behind it."""
        weight = self.number()
        return weight, self.trust()

    def heavy(self):
        """Take what stands behind heavy."""
        bound = self.number()
        self.expect("of")
        rows = self.listed(self.weighted, ",")
        return "heavy", bound, tuple(row[0] for row in rows), tuple(row[1] for row in rows)

    def mirror(self):
        """Take what stands behind mirror."""
        self.expect("(")
        trust = self.trust()
        self.expect(")")
        return mirrored(self.sizes, trust)

    def counted(self, many):
        """Take what stands behind many: so many in a lot, or of a list."""
        sign = self.take()
        if sign == "in" and many != "one":
            place = self.lot()
            return "lot", place, amount_told(many, self.sizes[place])
        if sign == "of":
            parts = self.listed(self.trust, ",")
            return "any", amount_told(many, len(parts)), parts
        raise BadText(0, "trust")

    def trust(self):
        """Take a trust, whose numbers may still be too great."""
        sign = self.take()
        if sign in self.names:
            return self.names[sign]
        if sign in self.places:
            return "lot", self.places[sign], 1
        if sign == "heavy":
            return self.heavy()
        if sign == "mirror":
            return self.mirror()
        if sign in ("least", "spare"):
            return sign, self.listed(self.member, "|")
        return self.counted(sign)


def amount_told(many, all_there):
    """How many of all there are many tells: a number or a word for it."""
    if many == "one":
        return 1
    if many == "most":
        return all_there // 2 + 1
    if many == "all":
        return all_there
    told = number_told(many)
    if told is None:
        raise BadText(0, "trust")
    return told


def trust_told(lots, names, text):
    """The trust that text tells with names known to be such; BadText if none."""
    signs = signs_of(text)
    if brackets_open(signs) > MOST_BRACKETS:
        raise BadText(0, "trust")
    reader = TrustReader(lots, names, signs)
    trust = reader.trust()
    if reader.ahead() != "" or not is_trust(reader.sizes, trust):
        raise BadText(0, "trust")
    return trust


def are_names(lots, thing):
    """Whether thing is a tuple of pairs (word, trust), the words different, no lot's."""
    if not isinstance(thing, tuple):
        return False
    taken = {lot[0]: True for lot in lots}
    for pair in thing:
        if not is_tuple(pair, 2) or not is_word(pair[0]) or pair[0] in taken:
            return False
        if not is_trust(sizes_of(lots), pair[1]):
            return False
        taken[pair[0]] = True
    return True


def read_trust(lots, names, text):
    """The trust that text tells; names are pairs of a word and its trust."""
    check_lots(lots)
    if not are_names(lots, names):
        raise NotUsable("names")
    if not isinstance(text, str):
        raise NotUsable("text")
    return trust_told(lots, names, text)
