"""All errors of the package, in their families."""


class AssentError(ValueError):
    """The base class of all errors of the package."""


class DataError(AssentError):
    """What was passed in is not made as its kind has to be."""


class CallError(AssentError):
    """A parameter is not as stated, or the function is not for this pact."""


class RunError(AssentError):
    """A run refused a move."""


class TextError(AssentError):
    """A text cannot be read."""


class ShelfError(AssentError):
    """A shelf refused a change."""


class BadLots(DataError):
    """Lot number at is wrong, or (-1) all of it."""

    def __init__(self, at, word):
        self.at = at
        self.word = word


class BadCounts(DataError):
    """The number for lot at is wrong, or (-1) all of it."""

    def __init__(self, at):
        self.at = at


class BadCrowd(DataError):
    """The spans for lot at are wrong, or (-1) all of it."""

    def __init__(self, at):
        self.at = at


class BadTrust(DataError):
    """Trust number at, as they are written, is wrong."""

    def __init__(self, at, word):
        self.at = at
        self.word = word


class BadStair(DataError):
    """Member number at is wrong, or (-1) all of it."""

    def __init__(self, at):
        self.at = at


class BadPact(DataError):
    """Row or charter number at is wrong, or (-1) the pact as a whole."""

    def __init__(self, at, word):
        self.at = at
        self.word = word


class BadRoll(DataError):
    """Deed number at is wrong, or (-1) all of it."""

    def __init__(self, at):
        self.at = at


class BadScheme(DataError):
    """Triple number at is wrong, or (-1) the scheme as a whole."""

    def __init__(self, at, word):
        self.at = at
        self.word = word


class NotUsable(CallError):
    """The parameter called word is not as stated."""

    def __init__(self, word):
        self.word = word


class NotFor(CallError):
    """The function is not for pacts of this manner or rule."""

    def __init__(self, word):
        self.word = word


class BadMove(RunError):
    """The move behind at moves was refused by the condition word."""

    def __init__(self, at, word):
        self.at = at
        self.word = word


class BadText(TextError):
    """Line number line of a text is not as it has to be."""

    def __init__(self, line, word):
        self.line = line
        self.word = word


class NoSuch(ShelfError):
    """No text is kept under word."""

    def __init__(self, word):
        self.word = word


class Taken(ShelfError):
    """A text is kept under word already."""

    def __init__(self, word):
        self.word = word


class NothingToUndo(ShelfError):
    """No call is left to be taken back."""

    def __init__(self):
        pass
