"""[81]: what suffices for a step, against all subsets of the houses."""

import random
import time

from assentwhole.errors import BadPact, BadTrust, NotFor, NotUsable
from assentwhole.orders import within
from assentwhole.partners import partner_of
from assentwhole.splitting import splitters
from assentwhole.stairs import stair_of
from assentwhole.sufficing import suffice
from tests.playing import A, B, single_pact
from tests.samples import DUO, ONLY, PACT, RULES, SWORN, THREE, Checks, some_pacts, step_trust, told_behind, told_holds
from tests.slowtables import SlowTables
from tests.test_pairings import told_pairs
from tests.test_splitting import exchanged

SOME = ("lot", 0, 1)
WISH = ("any", 1, (SOME, ONLY))
ALWAYS, NEVER = ("lot", 0, 0), ("any", 1, ())
STEPS = ("ask", "vote", "look", "hold")


def some_wish(dice, lots):
    """Some trust that does not hold at nobody; now and then never."""
    return NEVER if dice.randrange(8) == 0 else step_trust(dice, lots)


def told_across(pact, tables, step, charter):
    """The sets of crowds that a step has to meet, by the words of [81]."""
    if step == "hold":
        return [tables.step("ask", charter, b) & tables.step("vote", charter, b) for b in tables.kinds]
    if step == "look":
        others = told_behind(pact[4], charter) if pact[2] == "bold" else (charter,) + pact[4][charter]
        return [tables.step("vote", d, b) for d in others for b in tables.kinds]
    word = "ask" if step == "vote" else "vote"
    return [tables.step(word, d, b) for c, d in told_pairs(pact) if c == charter for b in tables.kinds]


def told_partner(houses, across, wished):
    """The crowds whose common houses with each crowd of all these sets are wished."""
    return {x for x in houses.crowds if all(x & y in wished for one in across for y in one)}


class SufficeTests(Checks):
    def test_examples(self):
        self.equal((suffice(DUO, WISH, "look", 0), suffice(DUO, WISH, "look", 1)), (((2, 0),), ((0, 1), (2, 0))))

    def test_small_pacts_against_all_crowds(self):
        dice = random.Random(81)
        found = {}
        for pact in some_pacts(10, 81):
            tables = SlowTables(pact)
            houses = tables.houses
            wish = some_wish(dice, pact[0])
            wished = houses.in_trust(wish)
            for step in STEPS:
                if step == "hold" and pact[1:3] != ("plain", "own"):
                    continue
                for charter in tables.come:
                    stair = suffice(pact, wish, step, charter)
                    self.equal(stair, houses.stair(told_partner(houses, told_across(pact, tables, step, charter), wished)))
                    found[step] = found.get(step, 0) + (stair != ())
        self.assertGreater(min(found.values()), 8)

    def test_it_may_stand_there(self):
        # With the stair in all kinds no more splits, as far as the wish goes, than without it.
        for pact in some_pacts(10, 82):
            wish = ("least", splitters(pact))
            if told_holds(pact[0], wish, (0,) * len(pact[0])):
                continue
            for step, at in (("ask", 0), ("vote", 2)):
                for charter in told_behind(pact[4], 0):
                    stair = suffice(pact, wish, step, charter)
                    rows = pact[3]
                    for kind in range(len(rows[0])):
                        self.equal(within(pact[0], stair_of(pact[0], rows[charter][kind][at]), stair), True)
                        rows = exchanged(rows, charter, kind, at, ("least", stair))
                    # A pair of the charter with itself has two new ones only if the other step stays.
                    self.equal(within(pact[0], splitters(pact[:3] + (rows, pact[4])), wish[1]), True)

    def test_which_charters_count(self):
        # One trust alone shares too little with whatever stands there: nothing suffices where it counts.
        chain = ((1,), (2,), (3,), ())
        expected = {
            ("own", "vote"): {0: {0, 1}, 1: {0, 1, 2}, 2: {1, 2, 3}, 3: {2, 3}},
            ("calm", "vote"): {0: {0, 1}, 1: {0, 1, 2}, 2: {1, 2, 3}, 3: {2, 3}},
            ("bold", "vote"): {c: {0, 1, 2, 3} for c in range(4)},
            ("own", "look"): {0: {0, 1}, 1: {1, 2}, 2: {2, 3}, 3: {3}},
            ("calm", "look"): {0: {0, 1}, 1: {1, 2}, 2: {2, 3}, 3: {3}},
            ("bold", "look"): {0: {0, 1, 2, 3}, 1: {1, 2, 3}, 2: {2, 3}, 3: {3}},
        }
        for (rule, step), counting in expected.items():
            across = "ask" if step == "vote" else "vote"
            for manner in ("plain", "sworn"):
                for odd in range(4):
                    pact = single_pact(manner, rule, chain, 2, {(across, odd, 1): B})
                    for charter in range(4):
                        wanted = () if odd in counting[charter] else ((1, 0),)
                        self.equal(suffice(pact, A, step, charter), wanted)
        star = single_pact("plain", "calm", ((1, 2), (), ()), 1, {("vote", 2, 0): B})
        self.equal(suffice(star, A, "ask", 1), ())
        self.equal(suffice(star[:2] + ("own",) + star[3:], A, "ask", 1), ((1, 0),))
        self.equal(suffice(star, A, "look", 1), ((1, 0),))
        hold = single_pact("plain", "own", ((1,), ()), 2, {("vote", 0, 1): B, ("ask", 0, 1): B, ("ask", 1, 0): B})
        self.equal((suffice(hold, A, "hold", 0), suffice(hold, A, "hold", 1)), ((), ((1, 0),)))
        self.equal(suffice(hold, NEVER, "vote", 0), ())

    def test_huge_lots(self):
        size = 10 ** 12
        lots = (("a", size), ("b", size))
        most = ("any", 1, (("lot", 0, 7 * 10 ** 11), ("lot", 1, 6 * 10 ** 11)))
        row = (most, None, most, most, most)
        pact = (lots, "plain", "own", ((row,),), ((),))
        wish = ("any", 1, (("lot", 0, 10 ** 11), ("lot", 1, 10 ** 11)))
        self.equal(suffice(pact, wish, "vote", 0), ((4 * 10 ** 11, 5 * 10 ** 11),))
        self.equal(suffice(pact, wish, "hold", 0), ((4 * 10 ** 11, 5 * 10 ** 11),))

    def test_as_long_as_the_limits_let(self):
        # A wish of ten members, and stairs of a hundred members in all.
        size = 10 ** 12
        lots = (("a", size), ("b", size), ("c", size))
        high = [size - 10 ** 9 * at for at in range(1, 6)]
        low = [10 ** 10 * at for at in range(1, 5)]
        wish = ("least", tuple(sorted((low[a], low[b], low[3 - max(a, b)]) for a in range(4) for b in range(4) if a + b < 4)))
        wish = ("least", tuple(row for row in wish[1] if not any(o != row and all(x <= y for x, y in zip(o, row)) for o in wish[1])))
        stair = tuple(sorted((high[a], high[b], high[6 - a - b]) for a in range(5) for b in range(5) if 2 <= a + b <= 6))
        trust = ("least", stair)
        row = (trust, None, trust, ("lot", 0, 1), ("lot", 1, 1))
        pact = (lots, "plain", "bold", ((row,),) * 6, ((1,), (2,), (3,), (4,), (5,), ()))
        start = time.process_time()
        for step in ("ask", "vote", "look"):
            found = suffice(pact, wish, step, 0)
            self.equal(found, partner_of(lots, stair, wish[1]))
            self.assertGreater(len(found), 1)
        self.assertLess(time.process_time() - start, 10)

    def test_wrong_ones(self):
        self.refused(BadPact(-1, "shape"), suffice, None, None, None, None)
        self.refused(BadTrust(0, "shape"), suffice, DUO, None, None, None)
        self.refused(BadTrust(0, "many"), suffice, DUO, ("lot", 0, 5), "look", 0)
        for wish in (ALWAYS, ("spare", ()), ("any", 0, ())):
            self.refused(NotUsable("wish"), suffice, DUO, wish, None, None)
        for step in (None, "echo", "Look", True, ["look"], "", ("look",), 0):
            self.refused(NotUsable("step"), suffice, DUO, WISH, step, None)
        for charter in (None, 2, True, -1, "1", (1,)):
            self.refused(NotUsable("charter"), suffice, DUO, WISH, "hold", charter)
        apart = DUO[:4] + (((), (0,)),)
        self.equal(suffice(apart, WISH, "look", 0), ((2, 0),))
        self.refused(NotUsable("charter"), suffice, apart, WISH, "look", 1)
        self.refused(NotUsable("charter"), suffice, SWORN, THREE, "hold", 1)
        for rule in RULES:
            self.refused(NotFor("manner"), suffice, SWORN[:2] + (rule,) + SWORN[3:], THREE, "hold", 0)
        for rule in ("calm", "bold"):
            pact = PACT[:2] + (rule,) + PACT[3:]
            self.refused(NotFor("rule"), suffice, pact, WISH, "hold", 0)
            self.equal(suffice(pact, WISH, "vote", 0), ((2, 0),))
