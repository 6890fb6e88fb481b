"""Parts of a pact: kinds of reigns, rows, and the stairs of their steps."""

from assentwhole.errors import NotUsable
from assentwhole.lots import sizes_of
from assentwhole.pactchecks import LEFT_OUT, STEPS, check_pact
from assentwhole.stairmaking import stair_in
from assentwhole.values import is_integer, is_number_to


def kinds_in(pact):
    """How many kinds a pact has."""
    return len(pact[3][0])


def require_charter(pact, thing, word):
    """NotUsable(word) if thing is no charter of a pact."""
    if not is_number_to(thing, len(pact[3]) - 1):
        raise NotUsable(word)


def require_kind(pact, thing):
    """NotUsable if thing is no kind of a pact."""
    if not is_number_to(thing, kinds_in(pact) - 1):
        raise NotUsable("kind")


def steps_in(pact):
    """The steps that the rows of a pact have trusts for."""
    return [step for step in STEPS if step != LEFT_OUT[pact[1]]]


def trust_at(pact, step, charter, kind):
    """The trust of a step that rows of the pact have."""
    return pact[3][charter][kind][STEPS.index(step)]


def kind_of(pact, reign):
    """The kind of reign."""
    check_pact(pact)
    if not is_integer(reign) or reign < 1:
        raise NotUsable("reign")
    return reign % kinds_in(pact)


def row_of(pact, charter, kind):
    """The row of charter for kind."""
    check_pact(pact)
    require_charter(pact, charter, "charter")
    require_kind(pact, kind)
    return pact[3][charter][kind]


def step_stair(pact, charter, kind, step):
    """The stair of the trust that charter has for kind at step."""
    row_of(pact, charter, kind)
    if step not in steps_in(pact):
        raise NotUsable("step")
    return stair_in(sizes_of(pact[0]), trust_at(pact, step, charter, kind))
