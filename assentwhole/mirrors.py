"""The mirror of a trust, and the trust beyond counts."""

from assentwhole.counting import check_counts
from assentwhole.lots import sizes_of
from assentwhole.trustchecks import check_trust

OTHER_STAIRS = {"least": "spare", "spare": "least"}


def mirrored(sizes, trust):
    """The mirror of a trust that is known to be one."""
    kind = trust[0]
    if kind == "lot":
        return "lot", trust[1], sizes[trust[1]] - trust[2] + 1
    if kind == "any":
        parts = tuple(mirrored(sizes, part) for part in trust[2])
        return "any", len(parts) - trust[1] + 1, parts
    if kind == "heavy":
        parts = tuple(mirrored(sizes, part) for part in trust[3])
        return "heavy", sum(trust[2]) - trust[1] + 1, trust[2], parts
    return OTHER_STAIRS[kind], trust[1]


def mirror_of(lots, trust):
    """The mirror of trust, written part by part."""
    check_trust(lots, trust)
    return mirrored(sizes_of(lots), trust)


def beyond(lots, counts):
    """The trust that holds at just the counts that are not below counts."""
    check_counts(lots, counts)
    return "any", 1, tuple(("lot", at, number + 1) for at, number in enumerate(counts))
