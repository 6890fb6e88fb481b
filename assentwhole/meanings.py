"""What rolls mean: the charter, sums under names, and the replies to deeds."""

from assentwhole.ledgers import Ledger
from assentwhole.rolls import check_roll


def told_meaning(roll):
    """The meaning of a roll that is known to be one."""
    ledger = Ledger(0, (), ())
    for deed in roll:
        ledger.take(deed)
    return ledger.outcome()


def meaning(pact, roll):
    """The triple (charter, table, clients) that roll leads to."""
    check_roll(pact, roll)
    return told_meaning(roll)


def replies(pact, roll):
    """For each deed of roll its reply, or None."""
    check_roll(pact, roll)
    ledger = Ledger(0, (), ())
    found = []
    for deed in roll:
        found.append(ledger.take(deed))
    return tuple(found)
