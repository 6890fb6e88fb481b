"""Rolls folded: a number of deeds and what they mean, from which later deeds go on."""

from assentwhole.errors import NotUsable
from assentwhole.ledgers import Ledger
from assentwhole.meanings import told_meaning
from assentwhole.pactchecks import check_pact
from assentwhole.rolls import check_roll
from assentwhole.values import is_integer, is_number, is_number_to, is_tuple


def is_sum(thing):
    """Whether thing is a pair (name, sum)."""
    return is_tuple(thing, 2) and is_number(thing[0]) and is_integer(thing[1])


def is_client(thing):
    """Whether thing is a triple (client, number, reply)."""
    if not is_tuple(thing, 3) or not is_number(thing[0]):
        return False
    return is_number(thing[1]) and thing[1] > 0 and is_integer(thing[2])


def ascend(rows):
    """Whether the first elements of rows ascend, no two alike."""
    return all(rows[at][0] < row[0] for at, row in enumerate(rows[1:]))


def is_meaning(pact, thing):
    """Whether thing is a triple (charter, table, clients)."""
    if not is_tuple(thing, 3) or not is_number_to(thing[0], len(pact[3]) - 1):
        return False
    _, table, clients = thing
    if not isinstance(table, tuple) or not all(is_sum(row) for row in table):
        return False
    if not isinstance(clients, tuple) or not all(is_client(row) for row in clients):
        return False
    return ascend(table) and ascend(clients)


def fold(pact, roll, many):
    """The pair of many and the meaning of the first many deeds of roll."""
    if not is_number_to(many, check_roll(pact, roll)):
        raise NotUsable("many")
    return many, told_meaning(roll[:many])


def go_on(pact, folded, deeds):
    """The meaning of a folded roll and of deeds behind it."""
    check_pact(pact)
    if not is_tuple(folded, 2) or not is_number(folded[0]) or not is_meaning(pact, folded[1]):
        raise NotUsable("folded")
    check_roll(pact, deeds)
    charter, table, clients = folded[1]
    ledger = Ledger(charter, table, clients)
    for deed in deeds:
        ledger.take(deed)
    return ledger.outcome()
