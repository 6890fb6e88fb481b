"""What a stair needs of each lot, and which lots it does not need."""

from assentwhole.lots import everyone
from assentwhole.stairs import check_stair


def numbers_by_lot(lots, stair):
    """For each lot the numbers that the members of stair have there."""
    return [[member[at] for member in stair] for at in range(len(lots))]


def needed(lots, stair):
    """For each lot the least number that a member has, everyone without a member."""
    check_stair(lots, stair)
    if not stair:
        return everyone(lots)
    return tuple(min(numbers) for numbers in numbers_by_lot(lots, stair))


def idle_lots(lots, stair):
    """The lots of which each member of stair has no house."""
    check_stair(lots, stair)
    return tuple(at for at, numbers in enumerate(numbers_by_lot(lots, stair)) if not any(numbers))
