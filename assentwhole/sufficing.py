"""What suffices for a step: the greatest stair that may stand there for a wish."""

from assentwhole.clauses import clauses_stair
from assentwhole.comings import reached_from
from assentwhole.errors import NotUsable
from assentwhole.mislooking import looked_after, require_holds
from assentwhole.pactchecks import check_pact
from assentwhole.pactparts import kinds_in, require_charter
from assentwhole.pactstairs import PactStairs
from assentwhole.pairings import are_paired
from assentwhole.partners import partner_stair
from assentwhole.stairrules import least_members
from assentwhole.wishes import wish_stair

# For each step the one whose trusts it has to meet; hold has to meet ask and vote together.
ACROSS = {"vote": "ask", "ask": "vote", "look": "vote"}
USED_STEPS = ("ask", "vote", "look", "hold")


def require_come(pact, charter):
    """NotUsable if charter is not one that is come to."""
    require_charter(pact, charter, "charter")
    if charter not in reached_from(pact[4], 0):
        raise NotUsable("charter")


def paired_with(pact, charter):
    """The ascending charters with which one that is come to is a pair."""
    come = reached_from(pact[4], 0)
    return [other for other in come if are_paired(pact, come, charter, other)]


def stairs_across(stairs, step, charter):
    """The stairs that a trust at this step of charter has to meet."""
    pact = stairs.base_pact
    kinds = list(range(kinds_in(pact)))
    if step == "hold":
        couples = [[stairs.stair("ask", charter, kind), stairs.stair("vote", charter, kind)] for kind in kinds]
        return [clauses_stair(len(pact[0]), couple) for couple in couples]
    others = looked_after(pact, charter) if step == "look" else paired_with(pact, charter)
    return [stairs.stair(ACROSS[step], other, kind) for other in others for kind in kinds]


def sufficing_stair(stairs, wish, step, charter):
    """What suffices, for the stairs of a pact, for the stair of a wish."""
    across = stairs_across(stairs, step, charter)
    # What meets each of several meets either of them.
    return partner_stair(stairs.sizes, least_members([member for stair in across for member in stair]), wish)


def suffice(pact, wish, step, charter):
    """The greatest stair whose commons with all that this step of charter has to meet are within wish."""
    check_pact(pact)
    wished = wish_stair(pact[0], wish)
    if step not in USED_STEPS:
        raise NotUsable("step")
    require_come(pact, charter)
    if step == "hold":
        require_holds(pact)
    return sufficing_stair(PactStairs(pact), wished, step, charter)
