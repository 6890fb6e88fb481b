"""Whether trusts hold: at counts, never, always."""

from assentwhole.counting import check_counts
from assentwhole.countrules import rest_counts
from assentwhole.lots import nobody, sizes_of
from assentwhole.stairrules import is_raised
from assentwhole.trustchecks import check_trust


def trust_holds(sizes, trust, counts):
    """Whether a trust that is known to be one holds at counts."""
    kind = trust[0]
    if kind == "lot":
        return counts[trust[1]] >= trust[2]
    if kind == "least":
        return is_raised(trust[1], counts)
    if kind == "spare":
        return not is_raised(trust[1], rest_counts(sizes, counts))
    if kind == "any":
        return sum(1 for part in trust[2] if trust_holds(sizes, part, counts)) >= trust[1]
    weights = [trust[2][at] for at, part in enumerate(trust[3]) if trust_holds(sizes, part, counts)]
    return sum(weights) >= trust[1]


def holds(lots, trust, counts):
    """Whether trust holds at counts."""
    check_trust(lots, trust)
    check_counts(lots, counts)
    return trust_holds(sizes_of(lots), trust, counts)


def never_holds(lots, trust):
    """Whether no crowd is in trust: what does not hold at everyone never does."""
    check_trust(lots, trust)
    sizes = sizes_of(lots)
    return not trust_holds(sizes, trust, sizes)


def always_holds(lots, trust):
    """Whether every crowd is in trust: what holds at nobody always does."""
    check_trust(lots, trust)
    return trust_holds(sizes_of(lots), trust, nobody(lots))
