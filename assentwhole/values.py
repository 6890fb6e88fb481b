"""What integers, numbers, tuples and words are: True is not 1 anywhere."""

KEPT_WORDS = (
    "of", "in", "most", "all", "one", "heavy", "least", "spare", "mirror", "nobody", "manner", "rule",
    "lot", "trust", "charter", "row", "ask", "echo", "vote", "look", "hold", "change", "to",
)
LETTERS = "abcdefghijklmnopqrstuvwxyz"
FIGURES = "0123456789"
LETTERS_AND_FIGURES = "abcdefghijklmnopqrstuvwxyz0123456789"
# Python refuses to read longer numbers; no line of a text is longer than this.
MOST_FIGURES = 4000


def is_integer(thing):
    """Whether thing is an int, and no bool."""
    return isinstance(thing, int) and not isinstance(thing, bool)


def is_number(thing):
    """Whether thing is an integer of at least 0."""
    return is_integer(thing) and thing >= 0


def is_number_to(thing, most):
    """Whether thing is a number of at most most."""
    return is_number(thing) and thing <= most


def is_tuple(thing, many):
    """Whether thing is a tuple with so many elements."""
    return isinstance(thing, tuple) and len(thing) == many


def is_word(thing):
    """Whether thing is a word that is not kept for texts."""
    if not isinstance(thing, str) or not 1 <= len(thing) <= 8:
        return False
    if thing[0] not in LETTERS or thing in KEPT_WORDS:
        return False
    return all(sign in LETTERS_AND_FIGURES for sign in thing)


def number_told(text):
    """The number that text is, as Python writes it, or None."""
    if not 1 <= len(text) <= MOST_FIGURES:
        return None
    if not all(sign in FIGURES for sign in text):
        return None
    if text[0] == "0" and len(text) > 1:
        return None
    return int(text)
