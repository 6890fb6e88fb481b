"""[51], [54]: outwakers, against all subsets of the houses."""

import random

from assentwhole.commons import common_of
from assentwhole.errors import BadPact
from assentwhole.orders import within
from assentwhole.outwaking import outwakers
from assentwhole.splitting import splitters
from assentwhole.waking import wakers
from tests.samples import LOTS, ROW, TWO, Checks, random_pact, some_pacts, step_trust
from tests.slowtables import SlowTables
from tests.test_splitting import exchanged

LATE = (TWO, None, ("lot", 0, 3), TWO, TWO)
CALM = (LOTS, "plain", "calm", ((LATE,), (ROW,)), ((1,), ()))


class OutwakingTests(Checks):
    def test_examples(self):
        self.equal((wakers(CALM), outwakers(CALM)), (((3, 0),), ((2, 0),)))

    def test_against_all_crowds(self):
        for pact in some_pacts(25, 151):
            slow = SlowTables(pact)
            self.equal(outwakers(pact), slow.stair(slow.outwakers()))

    def test_more_charters_by_bold_and_calm(self):
        dice = random.Random(152)
        for at in range(60):
            pact = random_pact(dice, (("a", 2), ("b", 2)), ("plain", "sworn")[at % 2], ("calm", "bold")[at // 2 % 2], 5, 2, 3)
            slow = SlowTables(pact)
            self.equal(outwakers(pact), slow.stair(slow.outwakers()))

    def test_calm_and_the_first_charter(self):
        # Nothing follows 0: enough(0). Something does, and 0 follows none: begin(0). 0 follows one: enough(0).
        self.equal(outwakers(CALM[:3] + (((LATE,),), ((),))), ((3, 0),))
        self.equal(outwakers(CALM), ((2, 0),))
        self.equal(outwakers(CALM[:4] + (((1,), (0,)),)), ((3, 0),))
        # What leads to 0 is not come to.
        self.equal(outwakers(CALM[:4] + (((), (0,)),)), ((3, 0),))
        self.equal(outwakers(CALM[:3] + (((LATE,), (ROW,), (ROW,)), ((1,), (), (0,)))), ((2, 0),))

    def test_bold_goes_on_from_one_to_the_next(self):
        def row(ask, vote):
            return (("lot", 0, ask), None, ("lot", 0, vote), TWO, TWO)

        lots = (("a", 6),)
        charters = ((row(1, 6),), (row(4, 6),), (row(2, 3),))
        look = ("lot", 0, 1)
        charters = tuple(tuple(one[:3] + (look, look) for one in rows) for rows in charters)
        self.equal(outwakers((lots, "plain", "bold", charters, ((1,), (2,), ()))), ((4,),))
        self.equal(outwakers((lots, "plain", "calm", charters, ((1,), (2,), ()))), ((6,),))
        # Two kinds: out by one kind to where the other one begins.
        charters = ((row(2, 6), row(6, 6)), (row(6, 6), row(3, 4)), (row(3, 5), row(6, 6)))
        charters = tuple(tuple(one[:3] + (look, look) for one in rows) for rows in charters)
        self.equal(outwakers((lots, "plain", "bold", charters, ((1,), (2,), ()))), ((5,),))

    def test_own_is_wakers(self):
        for pact in some_pacts(10, 153):
            lots, manner, _, rows, changes = pact
            self.equal(outwakers((lots, manner, "own", rows, changes)), wakers(pact))
            for rule in ("calm", "bold"):
                one = (lots, manner, rule, rows, changes)
                self.equal(within(lots, wakers(one), outwakers(one)), True)
                out = outwakers(one)
                self.equal(within(lots, common_of(lots, out, out), splitters(one)), True)

    def test_wider_trusts_have_more_outwakers(self):
        dice = random.Random(154)
        for pact in some_pacts(10, 154):
            charter, kind, step = dice.randrange(len(pact[3])), dice.randrange(len(pact[3][0])), dice.choice((0, 1, 2))
            old = pact[3][charter][kind][step]
            if old is not None:
                wide = exchanged(pact[3], charter, kind, step, ("any", 1, (old, step_trust(dice, pact[0]))))
                self.equal(within(pact[0], outwakers(pact), outwakers(pact[:3] + (wide, pact[4]))), True)

    def test_wrong_pact(self):
        self.refused(BadPact(-1, "changes"), outwakers, CALM[:4] + (((1,),),))
