"""Any so many of several stairs."""

from assentwhole.errors import NotUsable
from assentwhole.lots import check_lots, nobody, sizes_of
from assentwhole.stairjoins import both_stair, either_stair
from assentwhole.stairrules import are_stairs
from assentwhole.values import is_number_to


def any_stair(none, stairs, many):
    """The stair of any many of what is known to be stairs, none the counts nobody."""
    # A stair without members never counts; however many there are, few others are left.
    used = [stair for stair in stairs if stair]
    levels = [(none,)] + [()] * many
    for stair in used:
        raised = [both_stair(level, stair) for level in levels[:many]]
        levels = levels[:1] + [either_stair(old, new) for old, new in zip(levels[1:], raised)]
    return levels[many]


def any_of(lots, stairs, many):
    """The stair of the crowds that are in at least many of stairs."""
    check_lots(lots)
    if not are_stairs(sizes_of(lots), stairs):
        raise NotUsable("stairs")
    if not is_number_to(many, len(stairs) + 1):
        raise NotUsable("many")
    return any_stair(nobody(lots), stairs, many)
