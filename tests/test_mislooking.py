"""[52]: mislookers and misholders, against all pairs of subsets of the houses."""

import random

from assentwhole.errors import BadPact, NotFor
from assentwhole.mislooking import misholders, mislookers
from assentwhole.orders import within
from tests.samples import DUO, LOTS, ROW, SWORN, TWO, Checks, some_pacts, step_trust
from tests.slowtables import SlowTables
from tests.test_splitting import exchanged


class MislookingTests(Checks):
    def test_examples(self):
        self.equal((mislookers(DUO), misholders(DUO)), (((1, 0),), ((1, 0),)))
        self.refused(NotFor("manner"), misholders, SWORN)

    def test_against_all_crowds(self):
        for pact in some_pacts(12, 252):
            slow = SlowTables(pact)
            self.equal(mislookers(pact), slow.stair(slow.mislookers()))
            if pact[1:3] == ("plain", "own"):
                self.equal(misholders(pact), slow.stair(slow.misholders()))

    def test_rules(self):
        some, every = ("lot", 0, 1), ("lot", 0, 3)
        rows = tuple(((every, None, vote, look, every),) for vote, look in ((every, every), (every, every), (some, every)))
        for rule, wanted in (("own", ((1, 0),)), ("calm", ((1, 0),)), ("bold", ((1, 0),))):
            self.equal(mislookers((LOTS, "plain", rule, rows, ((1,), (2,), ()))), wanted)
        rows = tuple(((every, None, vote, look, every),) for vote, look in ((every, TWO), (every, every), (TWO, every)))
        for rule, wanted in (("own", ((2, 0),)), ("calm", ((2, 0),)), ("bold", ((1, 0),))):
            self.equal(mislookers((LOTS, "plain", rule, rows, ((1,), (2,), ()))), wanted)
        # What d may follow does not matter, only what may follow it.
        self.equal(mislookers((LOTS, "plain", "own", (rows[2], rows[0]), ((1,), ()))), ((2, 0),))
        self.equal(mislookers((LOTS, "plain", "own", (rows[0], rows[2]), ((1,), ()))), ((1, 0),))
        # 1 may follow 0, but neither is looked at behind 1, which is not come to.
        self.equal(mislookers((LOTS, "plain", "bold", (rows[0], rows[2]), ((), (0,)))), ((2, 0),))

    def test_what_misholders_are_for(self):
        for rule in ("calm", "bold"):
            self.refused(NotFor("rule"), misholders, (LOTS, "plain", rule, ((ROW,),), ((),)))
            self.refused(NotFor("manner"), misholders, SWORN[:2] + (rule,) + SWORN[3:])
        self.refused(BadPact(-1, "shape"), misholders, None)
        self.refused(BadPact(-1, "manner"), mislookers, DUO[:1] + ("sworn ",) + DUO[2:])

    def test_wider_trusts_have_more(self):
        dice = random.Random(253)
        for pact in some_pacts(10, 253):
            charter, kind, step = dice.randrange(len(pact[3])), dice.randrange(len(pact[3][0])), dice.choice((0, 2, 3, 4))
            old = pact[3][charter][kind][step]
            if old is not None:
                wide = exchanged(pact[3], charter, kind, step, ("any", 1, (old, step_trust(dice, pact[0]))))
                wider = pact[:3] + (wide, pact[4])
                self.equal(within(pact[0], mislookers(pact), mislookers(wider)), True)
                if pact[1:3] == ("plain", "own"):
                    self.equal(within(pact[0], misholders(pact), misholders(wider)), True)

    def test_charters_and_kinds_in_another_sequence(self):
        dice = random.Random(254)
        for pact in some_pacts(8, 254):
            lots, manner, rule, rows, changes = pact
            order = [0] + dice.sample(range(1, len(rows)), len(rows) - 1)
            kinds = dice.sample(range(len(rows[0])), len(rows[0]))
            moved = tuple(tuple(rows[c][k] for k in kinds) for c in order)
            led = tuple(tuple(sorted(order.index(d) for d in changes[c])) for c in order)
            self.equal(mislookers((lots, manner, rule, moved, led)), mislookers(pact))
