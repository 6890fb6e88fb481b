"""The cheapest member of a stair."""

from assentwhole.errors import NotUsable
from assentwhole.stairs import check_stair
from assentwhole.values import is_number, is_tuple


def price_of(counts, prices):
    """What counts cost, a price for each lot."""
    return sum(number * prices[at] for at, number in enumerate(counts))


def cheapest(lots, stair, prices):
    """The lowest price and the first member of stair that has it, or None."""
    check_stair(lots, stair)
    if not is_tuple(prices, len(lots)) or not all(is_number(price) for price in prices):
        raise NotUsable("prices")
    if not stair:
        return None
    # The members ascend, so the least of several pairs of one price is the first.
    return min([(price_of(member, prices), member) for member in stair])
