"""Nests: a trust over words, each word being a trust over lots of its own."""

from assentwhole.errors import NotUsable
from assentwhole.holding import trust_holds
from assentwhole.lots import everyone, lots_fault, sizes_of
from assentwhole.stairmaking import stair_in
from assentwhole.stairrules import least_members
from assentwhole.trustchecks import check_trust, is_trust
from assentwhole.values import is_tuple


def lots_of_parts(parts):
    """The lots of the parts, one part's behind the other's."""
    return tuple(lot for part in parts for lot in part[0])


def is_part(thing):
    """Whether thing is a pair of lots and a trust over them that holds at everyone."""
    if not is_tuple(thing, 2) or lots_fault(thing[0]) is not None:
        return False
    sizes = sizes_of(thing[0])
    return is_trust(sizes, thing[1]) and trust_holds(sizes, thing[1], sizes)


def are_parts(many, thing):
    """Whether thing is so many parts whose lots have different words."""
    if not is_tuple(thing, many) or not all(is_part(part) for part in thing):
        return False
    return lots_fault(lots_of_parts(thing)) is None


def rows_over(member, stairs, nothing):
    """All counts that have a member of the stair of each word in member, nothing of the others."""
    rows = [()]
    for at, number in enumerate(member):
        choices = stairs[at] if number > 0 else (nothing[at],)
        rows = [row + choice for row in rows for choice in choices]
    return rows


def without(member, given):
    """The counts member with 0 where given is true."""
    return tuple(0 if always else number for number, always in zip(member, given))


def nested_stair(words_stair, stairs, nothing):
    """The stair of the nest; nothing has the counts nobody for each part."""
    # A part that always holds gives its word for nothing, so members may fall away.
    given = [stair == (none,) for stair, none in zip(stairs, nothing)]
    members = least_members([without(member, given) for member in words_stair])
    # Rows of unlike members have unlike parts without houses: none is below another one.
    return tuple(sorted([row for member in members for row in rows_over(member, stairs, nothing)]))


def nest(words, trust, parts):
    """The lots of all parts, and the trust over them that trust over words becomes."""
    if everyone(words) != (1,) * len(words):
        raise NotUsable("words")
    check_trust(words, trust)
    if not are_parts(len(words), parts):
        raise NotUsable("parts")
    stairs = [stair_in(sizes_of(lots), part) for lots, part in parts]
    nothing = [(0,) * len(lots) for lots, part in parts]
    return lots_of_parts(parts), ("least", nested_stair(stair_in(sizes_of(words), trust), stairs, nothing))
