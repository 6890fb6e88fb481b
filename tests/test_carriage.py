"""[53], [54]: carriers, against all subsets of the houses."""

import random

from assentwhole.carriage import carriers
from assentwhole.comings import behind
from assentwhole.errors import BadPact, NotFor, NotUsable
from assentwhole.orders import within
from assentwhole.stairjoins import either_of
from assentwhole.waking import enough
from tests.samples import DUO, LOTS, ROW, Checks, random_pact, some_pacts, step_trust
from tests.slowtables import SlowTables
from tests.test_outwaking import CALM
from tests.test_splitting import exchanged


def own_pacts(many, seed, charters=4):
    dice = random.Random(seed)
    for at in range(many):
        lots = ((("a", 2), ("b", 1)), (("a", 3),), (("a", 2), ("b", 2)))[at % 3]
        manner = ("plain", "sworn")[at // 3 % 2]
        yield random_pact(dice, lots, manner, "own", dice.randint(1, charters), dice.randint(1, 2), dice.randint(1, 3))


class CarrierTests(Checks):
    def test_examples(self):
        self.equal((carriers(DUO, 0, 1), carriers(DUO, 1, 0)), (((2, 1),), ()))
        self.refused(NotFor("rule"), carriers, CALM, 0, 1)

    def test_against_all_crowds(self):
        for pact in own_pacts(60, 53):
            slow = SlowTables(pact)
            for c in range(len(pact[3])):
                for d in range(len(pact[3])):
                    self.equal(carriers(pact, c, d), slow.stair(slow.carriers(c, d)))

    def test_to_itself_and_to_what_is_not_behind(self):
        for pact in own_pacts(40, 54):
            for c in range(len(pact[3])):
                either = ()
                for kind in range(len(pact[3][0])):
                    either = either_of(pact[0], either, enough(pact, c, kind))
                self.equal(carriers(pact, c, c), either)
                for d in range(len(pact[3])):
                    if d not in behind(pact, c):
                        self.equal(carriers(pact, c, d), ())

    def test_by_way_of_others(self):
        # On to 1 in the kind of 0's reign, or by a new reign that 1 has to let begin.
        def row(ask, vote):
            return (("lot", 0, ask), None, ("lot", 0, vote), ("lot", 0, 1), ("lot", 0, 1))

        lots = (("a", 6),)
        never = row(6, 6)
        self.equal(carriers((lots, "plain", "own", ((row(2, 3),), (row(6, 4),)), ((1,), ())), 0, 1), ((4,),))
        self.equal(carriers((lots, "plain", "own", ((row(2, 3), never), (never, row(5, 1))), ((1,), ())), 0, 1), ((5,),))
        self.equal(carriers((lots, "plain", "own", ((row(2, 3), never), (row(6, 4), row(5, 1))), ((1,), ())), 0, 1), ((4,),))
        # To 3 by 1 or by 2, and back around a ring.
        star = ((row(1, 1),), (row(4, 4),), (row(3, 5),), (row(2, 2),))
        self.equal(carriers((lots, "plain", "own", star, ((1, 2), (3,), (3,), ())), 0, 3), ((4,),))
        self.equal(carriers((lots, "plain", "own", star, ((2,), (3,), (3,), (1,))), 0, 1), ((5,),))
        ring = (lots, "plain", "own", star, ((1,), (2,), (3,), (0,)))
        self.equal([carriers(ring, c, 0) for c in range(4)], [((1,),), ((5,),), ((5,),), ((2,),)])

    def test_charters_that_are_not_come_to(self):
        pact = (LOTS, "plain", "own", ((ROW,), (ROW,), (ROW,)), ((), (2,), ()))
        self.equal((carriers(pact, 1, 2), carriers(pact, 1, 1), carriers(pact, 0, 2)), (((2, 0),), ((2, 0),), ()))

    def test_wider_trusts_have_more(self):
        dice = random.Random(55)
        for pact in own_pacts(30, 55):
            charter, kind, step = dice.randrange(len(pact[3])), dice.randrange(len(pact[3][0])), dice.choice((0, 1, 2))
            old = pact[3][charter][kind][step]
            if old is not None:
                wide = exchanged(pact[3], charter, kind, step, ("any", 1, (old, step_trust(dice, pact[0]))))
                for other in range(len(pact[3])):
                    found = carriers(pact[:3] + (wide, pact[4]), 0, other)
                    self.equal(within(pact[0], carriers(pact, 0, other), found), True)

    def test_wrong_ones(self):
        for thing in (2, -1, True, None, "0"):
            self.refused(NotUsable("charter"), carriers, DUO, thing, None)
            self.refused(NotUsable("other"), carriers, DUO, 1, thing)
            self.refused(NotUsable("charter"), carriers, CALM, thing, 0)
            self.refused(NotUsable("other"), carriers, CALM, 0, thing)
        self.refused(BadPact(-1, "shape"), carriers, None, None, None)
        for rule in ("calm", "bold"):
            for pact in some_pacts(1, 56):
                self.refused(NotFor("rule"), carriers, pact[:2] + (rule,) + pact[3:], 0, 0)
