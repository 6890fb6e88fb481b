"""Crowds written as text, and read from it."""

from assentwhole.crowds import check_crowd, crowd_fault
from assentwhole.errors import BadText, NotUsable
from assentwhole.lots import check_lots, sizes_of
from assentwhole.values import number_told


def span_text(span):
    """A span told by its first and its last house."""
    first, end = span
    if end == first + 1:
        return str(first)
    return f"{first}-{end - 1}"


def text_of_crowd(lots, crowd):
    """The text of a crowd that is known to be such."""
    rows = [
        lot[0] + ":" + ",".join([span_text(span) for span in crowd[at]])
        for at, lot in enumerate(lots)
        if crowd[at]
    ]
    return " ".join(rows) if rows else "nobody"


def crowd_text(lots, crowd):
    """The text of crowd."""
    check_crowd(lots, crowd)
    return text_of_crowd(lots, crowd)


def read_span(text):
    """The span that text tells, or None."""
    first, dash, last = text.partition("-")
    low = number_told(first)
    high = number_told(last) if dash else low
    if low is None or high is None:
        return None
    return low, high + 1


def loose_crowd(lots, text):
    """What text tells of each lot, which need not be a crowd yet."""
    told = {}
    for row in text.split(" "):
        word, _, spans = row.partition(":")
        told[word] = tuple(read_span(span) for span in spans.split(","))
    return tuple(told.get(word, ()) for word, size in lots)


def read_crowd(lots, text):
    """The crowd whose text this is; BadText for any other string."""
    check_lots(lots)
    if not isinstance(text, str):
        raise NotUsable("text")
    crowd = loose_crowd(lots, text)
    # The loose reading takes more than it should: what it read is written again.
    if crowd_fault(sizes_of(lots), crowd) is not None or text_of_crowd(lots, crowd) != text:
        raise BadText(0, "crowd")
    return crowd
