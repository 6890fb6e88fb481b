"""[50], [54]: what suffices, wakers and stoppers, against all subsets of the houses."""

import random

from assentwhole.commons import common_of
from assentwhole.errors import BadPact, NotUsable
from assentwhole.mirrorstairs import mirror_stair
from assentwhole.orders import within
from assentwhole.splitting import splitters
from assentwhole.waking import enough, stoppers, wakers
from tests.samples import DUO, LOTS, PACT, ROW, SWORN, TWO, Checks, some_pacts, step_trust
from tests.slowtables import SlowTables
from tests.test_splitting import exchanged


class WakingTests(Checks):
    def test_examples(self):
        self.equal((enough(DUO, 0, 0), wakers(DUO), stoppers(DUO)), (((2, 0),), ((2, 1),), ((0, 1), (2, 0))))
        self.equal((wakers(PACT), wakers(SWORN)), (((2, 0),), ((3,),)))

    def test_against_all_crowds(self):
        for pact in some_pacts(14, 50):
            slow = SlowTables(pact)
            for charter in range(len(pact[3])):
                for kind in slow.kinds:
                    self.equal(enough(pact, charter, kind), slow.stair(slow.enough(charter, kind)))
            self.equal(wakers(pact), slow.stair(slow.wakers()))
            others = {crowd for crowd in slow.everything if slow.houses.others(crowd) not in slow.wakers()}
            self.equal(stoppers(pact), slow.stair(others))
            self.equal(stoppers(pact), mirror_stair(pact[0], wakers(pact)))

    def test_charters_that_are_not_come_to(self):
        most = ("lot", 0, 3)
        rows = ((ROW,), ((most, None, most, most, most),))
        self.equal(wakers((LOTS, "plain", "own", rows, ((), ()))), ((2, 0),))
        self.equal(enough((LOTS, "plain", "own", rows, ((), (0,))), 1, 0), ((3, 0),))
        self.equal(wakers((LOTS, "plain", "own", rows, ((), (0,)))), ((2, 0),))
        self.equal(wakers((LOTS, "plain", "own", rows, ((1,), ()))), ((3, 0),))

    def test_one_kind_is_enough(self):
        only = ("lot", 1, 1)
        pact = (LOTS, "plain", "own", ((ROW, (only, None, only, only, only)),), ((),))
        self.equal(wakers(pact), ((0, 1), (2, 0)))
        self.equal(stoppers(pact), ((2, 1),))

    def test_echo_counts_in_sworn_pacts(self):
        pact = (LOTS, "sworn", "bold", (((TWO, ("lot", 1, 1), TWO, TWO, None),),), ((),))
        self.equal(wakers(pact), ((2, 1),))
        pact = (LOTS, "sworn", "bold", (((TWO, TWO, TWO, ("lot", 1, 1), None),),), ((),))
        self.equal(wakers(pact), ((2, 0),))

    def test_huge_lots(self):
        lots = (("a", 10 ** 12), ("b", 10 ** 12))
        most = ("any", 1, (("lot", 0, 10 ** 12 // 2 + 1), ("lot", 1, 10 ** 12 // 2 + 1)))
        pact = (lots, "sworn", "own", (((most,) * 4 + (None,),),), ((),))
        self.equal(wakers(pact), ((0, 10 ** 12 // 2 + 1), (10 ** 12 // 2 + 1, 0)))
        self.equal(stoppers(pact), ((10 ** 12 // 2, 10 ** 12 // 2),))

    def test_the_common_of_wakers_splits(self):
        for pact in some_pacts(15, 51):
            awake = wakers(pact)
            self.equal(within(pact[0], common_of(pact[0], awake, awake), splitters(pact)), True)

    def test_wider_trusts_have_more_wakers(self):
        dice = random.Random(52)
        for pact in some_pacts(10, 52):
            charter, kind, step = dice.randrange(len(pact[3])), dice.randrange(len(pact[3][0])), dice.choice((0, 1, 2))
            old = pact[3][charter][kind][step]
            if old is not None:
                wide = exchanged(pact[3], charter, kind, step, ("any", 1, (old, step_trust(dice, pact[0]))))
                self.equal(within(pact[0], wakers(pact), wakers(pact[:3] + (wide, pact[4]))), True)

    def test_wrong_ones(self):
        for thing in (2, -1, True, None, "0"):
            self.refused(NotUsable("charter"), enough, DUO, thing, None)
        for thing in (1, -1, False, None, "0"):
            self.refused(NotUsable("kind"), enough, DUO, 1, thing)
        for call in (wakers, stoppers):
            self.refused(BadPact(-1, "shape"), call, None)
