"""[54]: charters other than 0, kinds and lots in another sequence."""

import random

from assentwhole.carriage import carriers
from assentwhole.mislooking import misholders, mislookers
from assentwhole.outwaking import outwakers
from assentwhole.splitting import splitters
from assentwhole.waking import stoppers, wakers
from tests.samples import Checks, random_pact

LOTS = (("a", 3), ("b", 1), ("c", 2))


def tables_of(pact):
    """The calls whose answers a sequence does not change."""
    calls = [splitters, wakers, stoppers, outwakers, mislookers]
    return calls + [misholders] if pact[1:3] == ("plain", "own") else calls


def with_lots(trust, places):
    """A trust over lots that stand at other places now."""
    if trust is None:
        return None
    if trust[0] == "lot":
        return "lot", places.index(trust[1]), trust[2]
    if trust[0] in ("least", "spare"):
        return trust[0], moved_stair(trust[1], places)
    return trust[:-1] + (tuple(with_lots(part, places) for part in trust[-1]),)


def moved_stair(stair, places):
    return tuple(sorted(tuple(member[place] for place in places) for member in stair))


class OrderTests(Checks):
    def pacts(self, seed):
        dice = random.Random(seed)
        for at in range(36):
            manner, rule = ("plain", "sworn")[at % 2], ("own", "calm", "bold")[at // 2 % 3]
            yield dice, random_pact(dice, LOTS, manner, rule, dice.randint(1, 5), dice.randint(1, 3), dice.randint(1, 3))

    def test_charters_and_kinds(self):
        for dice, pact in self.pacts(1):
            lots, manner, rule, rows, changes = pact
            order = [0] + dice.sample(range(1, len(rows)), len(rows) - 1)
            kinds = dice.sample(range(len(rows[0])), len(rows[0]))
            moved = tuple(tuple(rows[c][k] for k in kinds) for c in order)
            led = tuple(tuple(sorted(order.index(d) for d in changes[c])) for c in order)
            other = (lots, manner, rule, moved, led)
            for call in tables_of(pact):
                self.equal(call(other), call(pact))
            if rule == "own":
                for c in range(len(rows)):
                    self.equal(carriers(other, 0, order.index(c)), carriers(pact, 0, c))

    def test_lots(self):
        for dice, pact in self.pacts(2):
            lots, manner, rule, rows, changes = pact
            places = dice.sample(range(3), 3)
            moved = tuple(tuple(tuple(with_lots(t, places) for t in row) for row in charter) for charter in rows)
            other = (tuple(lots[place] for place in places), manner, rule, moved, changes)
            for call in tables_of(pact):
                self.equal(call(other), moved_stair(call(pact), places))
