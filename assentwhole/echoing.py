"""What may stand for echo in a charter of a sworn pact."""

from assentwhole.clauses import clauses_stair
from assentwhole.errors import NotFor
from assentwhole.pactchecks import check_pact
from assentwhole.pactparts import require_kind
from assentwhole.pactstairs import PactStairs
from assentwhole.partners import partner_clauses
from assentwhole.stairrules import least_members
from assentwhole.sufficing import paired_with, require_come
from assentwhole.wishes import wish_stair


def half_up(sizes, wished):
    """The least counts that have, twice over, the wished ones in common."""
    return tuple((wished[at] + size + 1) // 2 if wished[at] > 0 else 0 for at, size in enumerate(sizes))


def may_echo(pact, wish, charter, kind):
    """The stair of what meets itself for wish, and each echo trust of this kind that stands beside charter's."""
    check_pact(pact)
    wished = wish_stair(pact[0], wish)
    require_come(pact, charter)
    require_kind(pact, kind)
    if pact[1] != "sworn":
        raise NotFor("manner")
    stairs = PactStairs(pact)
    echoes = [member for other in paired_with(pact, charter) for member in stairs.stair("echo", other, kind)]
    clauses = partner_clauses(stairs.sizes, least_members(echoes), wished)
    return clauses_stair(len(pact[0]), clauses + [[half_up(stairs.sizes, low) for low in wished]])
