"""The mislookers and the misholders: which crowds can make looks show what is not right."""

from assentwhole.comings import reached_from
from assentwhole.errors import NotFor
from assentwhole.pactchecks import check_pact
from assentwhole.pactgrids import PactGrid
from assentwhole.pactparts import kinds_in
from assentwhole.pactstairs import PactStairs


def looked_after(pact, charter):
    """The charters whose votes a look of this charter has to meet."""
    if pact[2] == "bold":
        return reached_from(pact[4], charter)
    return (charter,) + pact[4][charter]


def look_rows(pact, stairs):
    """For each common of the mislookers its (charter, kind, charter, kind), and its stairs, of look and of vote."""
    kinds = list(range(kinds_in(pact)))
    sides = [(here, there) for here in reached_from(pact[4], 0) for there in looked_after(pact, here)]
    return [
        ((here, kind, there, other), (stairs.stair("look", here, kind), stairs.stair("vote", there, other)))
        for here, there in sides for kind in kinds for other in kinds
    ]


def hold_rows(pact, stairs):
    """For each common of the misholders its (charter, kind, kind), and its stairs, of hold and of ask and vote."""
    tables = PactGrid(pact)
    found = []
    for charter in tables.come:
        both = [tables.stair(tables.enough(charter, kind)) for kind in tables.kinds]
        found.extend([
            ((charter, kind, other), (stairs.stair("hold", charter, kind), both[other]))
            for kind in tables.kinds for other in tables.kinds
        ])
    return found


def require_holds(pact):
    """NotFor if the pact is not a plain one by own."""
    if pact[1] != "plain":
        raise NotFor("manner")
    if pact[2] != "own":
        raise NotFor("rule")


def mislookers(pact):
    """The stair of the mislookers of pact."""
    check_pact(pact)
    stairs = PactStairs(pact)
    return stairs.commons([couple for place, couple in look_rows(pact, stairs)])


def misholders(pact):
    """The stair of the misholders of pact, a plain one by own."""
    check_pact(pact)
    require_holds(pact)
    stairs = PactStairs(pact)
    return stairs.commons([couple for place, couple in hold_rows(pact, stairs)])
