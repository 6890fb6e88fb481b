"""[82]: what may stand for echo, against all subsets of the houses."""

import random

from assentwhole.echoing import may_echo
from assentwhole.errors import BadPact, BadTrust, NotFor, NotUsable
from assentwhole.splitting import splitters
from assentwhole.stairs import stair_of
from assentwhole.orders import within
from tests.playing import A, B, single_pact
from tests.samples import DUO, RULES, SWORN, Checks, all_counts, some_pacts, told_behind, told_stair
from tests.slowtables import SlowTables
from tests.test_pairings import told_pairs
from tests.test_splitting import exchanged
from tests.test_sufficing import NEVER, some_wish


def told_echo(pact, tables, wished, charter, kind):
    """The stair by the words of [82], by all crowds."""
    houses = tables.houses
    good = {
        x for x in houses.crowds
        if all(x & y in wished for c, d in told_pairs(pact) if c == charter for y in tables.step("echo", d, kind))
    }
    for counts in all_counts(pact[0]):
        alike = [x for x in houses.crowds if houses.counts[x] == counts]
        # Some two crowds of these counts share just the least common counts.
        if not all(x & y in wished for x in alike for y in alike):
            good -= set(alike)
    return houses.stair(good)


class EchoTests(Checks):
    def test_examples(self):
        self.equal(may_echo(SWORN, ("lot", 0, 2), 0, 0), ((3,),))

    def test_small_pacts_against_all_crowds(self):
        dice = random.Random(82)
        found = 0
        for pact in some_pacts(16, 182, manners=("sworn",)):
            tables = SlowTables(pact)
            wish = some_wish(dice, pact[0])
            wished = tables.houses.in_trust(wish)
            for charter in tables.come:
                for kind in tables.kinds:
                    stair = may_echo(pact, wish, charter, kind)
                    self.equal(stair, told_echo(pact, tables, wished, charter, kind))
                    found += stair != ()
        self.assertGreater(found, 20)

    def test_it_may_stand_there(self):
        for pact in some_pacts(10, 183, manners=("sworn",)):
            wish = ("least", splitters(pact))
            if any(not any(member) for member in wish[1]):
                continue
            for charter in told_behind(pact[4], 0):
                stair = may_echo(pact, wish, charter, 0)
                self.equal(within(pact[0], stair_of(pact[0], pact[3][charter][0][1]), stair), True)
                rows = exchanged(pact[3], charter, 0, 1, ("least", stair))
                self.equal(within(pact[0], splitters(pact[:3] + (rows, pact[4])), wish[1]), True)

    def test_which_charters_count(self):
        # An echo trust of another kind, or of a charter that is no pair with this one, does not count.
        for rule, changes, charter, other, near in (
            ("own", ((1,), (2,), ()), 0, 1, True), ("own", ((1,), (2,), ()), 1, 0, True), ("own", ((1,), (2,), ()), 0, 2, False),
            ("calm", ((1,), (2,), ()), 0, 2, False), ("bold", ((1,), (2,), ()), 0, 2, True), ("calm", ((1, 2), (), ()), 1, 2, True),
            ("own", ((1, 2), (), ()), 1, 2, False), ("own", ((1,), (), (0,)), 0, 2, False), ("bold", ((1,), (), (0,)), 0, 2, False),
        ):
            pact = single_pact("sworn", rule, changes, 2, {("echo", other, 1): B})
            self.equal(may_echo(pact, A, charter, 1), () if near else ((1, 0),))
            self.equal(may_echo(pact, A, charter, 0), ((1, 0),))
            self.equal(may_echo(pact, NEVER, charter, 0), ())

    def test_odd_and_even_sizes(self):
        # Twice x less the size has to be at least the wished number.
        for size in range(1, 8):
            lots = (("a", size), ("b", 2))
            every = ("any", 2, (("lot", 0, size), ("lot", 1, 2)))
            pact = (lots, "sworn", "own", (((every,) * 4 + (None,),),), ((),))
            for least in range(1, size + 1):
                wished = told_stair(lots, lambda x: x[0] * 2 - size >= least or x[1] * 2 - 2 >= 1)
                wish = ("any", 1, (("lot", 0, least), ("lot", 1, 1)))
                self.equal(may_echo(pact, wish, 0, 0), wished)

    def test_huge_lots(self):
        size = 10 ** 12
        most = ("lot", 0, 2 * size // 3 + 1)
        pact = ((("a", size),), "sworn", "bold", (((most,) * 4 + (None,),),) * 6, ((1, 2, 3, 4, 5), (), (), (), (), ()))
        self.equal(may_echo(pact, ("lot", 0, size // 3), 5, 0), ((2 * size // 3 + 1,),))
        self.equal(may_echo(pact, ("lot", 0, 3), 5, 0), ((size // 2 + 2,),))

    def test_wrong_ones(self):
        two = ("lot", 0, 2)
        self.refused(BadPact(-1, "shape"), may_echo, None, None, None, None)
        self.refused(BadTrust(0, "shape"), may_echo, SWORN, None, None, None)
        self.refused(NotUsable("wish"), may_echo, SWORN, ("lot", 0, 0), None, None)
        for charter in (None, 1, False, -1, "0", (0,)):
            self.refused(NotUsable("charter"), may_echo, SWORN, two, charter, None)
        self.refused(NotUsable("charter"), may_echo, DUO[:4] + (((), ()),), two, 1, 0)
        for kind in (None, 1, False, -1, "0", (0,)):
            self.refused(NotUsable("kind"), may_echo, SWORN, two, 0, kind)
            self.refused(NotUsable("kind"), may_echo, DUO, two, 0, kind)
        for rule in RULES:
            self.refused(NotFor("manner"), may_echo, DUO[:2] + (rule,) + DUO[3:], two, 0, 0)
