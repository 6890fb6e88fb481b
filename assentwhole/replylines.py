"""Lines that ask a shelf for what its pacts are like, and their replies."""

from assentwhole.bearing import bears
from assentwhole.crowds import crowd_counts
from assentwhole.crowdtexts import read_crowd
from assentwhole.errors import BadText, NoSuch, NotFor, NotUsable
from assentwhole.mislooking import misholders, mislookers
from assentwhole.outwaking import outwakers
from assentwhole.routes import route_of
from assentwhole.shelves import Shelf, require_text
from assentwhole.splitcourses import fewest_reigns
from assentwhole.splitting import splitters
from assentwhole.stairrules import is_raised
from assentwhole.sufficing import USED_STEPS, suffice
from assentwhole.trustreading import read_trust
from assentwhole.trusttexts import member_text
from assentwhole.waking import stoppers, wakers
from assentwhole.widening import is_full, widened

# For each first word what stands behind it; the last part goes to the end of the line.
FORMS = {
    "splitters": ("word",), "wakers": ("word",), "stoppers": ("word",), "outwakers": ("word",),
    "mislookers": ("word",), "misholders": ("word",), "splits": ("word", "crowd"), "wakes": ("word", "crowd"),
    "suffice": ("word", "step", "charter", ":", "wish"), "bears": ("word", ":", "wish"),
    "route": ("word", "charter", "charter", ":", "wish"), "widen": ("word", ":", "wish"),
}


def is_told(part, text):
    """Whether text may be what a form calls part, whatever it means."""
    if part == ":":
        return text == ":"
    if part == "step":
        return text in USED_STEPS
    if part in ("word", "charter"):
        return text != "" and " " not in text
    return text != ""


def told_parts(form, text):
    """What text tells for each part of a form, or None if it is not of this form."""
    found = text.split(" ")
    if len(found) < len(form):
        return None
    # Crowds and wishes may have blanks of their own.
    last = len(form) - 1
    found = found[:last] + [" ".join(found[last:])]
    return found if all(is_told(part, told) for part, told in zip(form, found)) else None


def read_part(part, row, told):
    """What told means for part, asked of a row of a shelf."""
    _, pact, words = row
    if part == "charter":
        if told not in words:
            raise NotUsable("charter")
        return words.index(told)
    if part == "crowd":
        return read_crowd(pact[0], told)
    if part == "wish":
        return read_trust(pact[0], (), told)
    return told


def stair_text(lots, stair):
    """The members of a stair in words."""
    return " or ".join([member_text(lots, member) for member in stair]) if stair else "never"


def yes_or_no(holds):
    """The word for whether something is so."""
    return "yes" if holds else "no"


def stair_named(word, pact):
    """The stair of the pact that has this name."""
    if word == "splitters":
        return splitters(pact)
    if word == "wakers":
        return wakers(pact)
    if word == "stoppers":
        return stoppers(pact)
    if word == "outwakers":
        return outwakers(pact)
    return mislookers(pact) if word == "mislookers" else misholders(pact)


def tell_splits(pact, crowd):
    """Whether crowd is in the splitters, and by how many reigns it splits a plain pact."""
    if not is_raised(splitters(pact), crowd_counts(crowd)):
        return "no"
    return f"yes {fewest_reigns(pact, crowd)}" if pact[1] == "plain" else "yes"


def tell_route(pact, words, wish, charter, other):
    """The charters of a route."""
    route = route_of(pact, wish, charter, other)
    return "none" if route is None else "by " + " ".join([words[place] for place in route])


def tell_widened(pact, wish):
    """Whether the pact is as wide as the wish lets."""
    return "none" if widened(pact, wish) is None else yes_or_no(is_full(pact, wish))


def answer_to(word, row, parts):
    """The reply to a line with this first word, whose parts are read."""
    _, pact, words = row
    if word == "splits":
        return tell_splits(pact, parts[1])
    if word == "wakes":
        return yes_or_no(is_raised(wakers(pact), crowd_counts(parts[1])))
    if word == "suffice":
        return stair_text(pact[0], suffice(pact, parts[4], parts[1], parts[2]))
    if word == "bears":
        return yes_or_no(bears(pact, parts[2]))
    if word == "route":
        return tell_route(pact, words, parts[4], parts[1], parts[2])
    if word == "widen":
        return tell_widened(pact, parts[2])
    return stair_text(pact[0], stair_named(word, pact))


def reply_to(shelf, line):
    """The reply to a line."""
    word, _, text = line.partition(" ")
    form = FORMS.get(word)
    told = None if form is None else told_parts(form, text)
    if told is None:
        return "unknown"
    try:
        row = shelf.row_of(told[0])
        return answer_to(word, row, [read_part(part, row, one) for part, one in zip(form, told)])
    except NoSuch:
        return "refused NoSuch"
    except NotUsable:
        return "refused NotUsable"
    except BadText:
        return "refused BadText"
    except NotFor:
        return "refused NotFor"


def reply_lines(shelf, text):
    """The list of the replies to the lines of text."""
    if not isinstance(shelf, Shelf):
        raise NotUsable("shelf")
    require_text(text)
    return [reply_to(shelf, line) for line in text.split("\n")]
