"""[86]: lone charters, against what is said of charters that suit."""

import random

from assentwhole.commons import common_of
from assentwhole.errors import BadPact, BadTrust, NotUsable
from assentwhole.lones import lone_charters
from assentwhole.orders import within
from assentwhole.stairs import stair_of
from tests.playing import A, AB, B, single_pact
from tests.samples import DUO, ONLY, PACT, RULES, Checks, some_pacts
from tests.test_sufficing import NEVER, SOME, some_wish

STEPS = ("ask", "echo", "vote", "look", "hold")
WRONG_WISHES = (
    (None, BadTrust(0, "shape")), (["lot", 0, 1], BadTrust(0, "shape")), (("lot", True, 1), BadTrust(0, "lot")),
    (("lot", 0, 5), BadTrust(0, "many")), (("lot", 0, 0), NotUsable("wish")), (("spare", ()), NotUsable("wish")),
)


def told_suit(pact, wish, c, d):
    """Whether c and d suit, by the words above [86]."""
    def stair(step, charter, kind):
        return stair_of(pact[0], pact[3][charter][kind][STEPS.index(step)])

    kinds = range(len(pact[3][0]))
    couples = [(stair("vote", one, a), stair("ask", two, b)) for one, two in ((c, d), (d, c)) for a in kinds for b in kinds]
    if pact[1] == "sworn":
        couples += [(stair("echo", c, a), stair("echo", d, a)) for a in kinds]
    wished = stair_of(pact[0], wish)
    return all(within(pact[0], common_of(pact[0], one, two), wished) for one, two in couples)


def some_cases(seed, many, manners=("plain", "sworn")):
    """Small pacts, each with a wish that some of its charters suit."""
    dice = random.Random(seed)
    for pact in some_pacts(many, seed, manners=manners):
        loose = ("any", 1, tuple(("lot", at, 1) for at in range(len(pact[0]))))
        yield pact, dice.choice((loose, loose, some_wish(dice, pact[0]), NEVER))


class LoneTests(Checks):
    def test_examples(self):
        self.equal((lone_charters(DUO, SOME), lone_charters(DUO, ONLY)), ((0, 1), (1,)))

    def test_small_pacts(self):
        found = {True: 0, False: 0}
        for pact, wish in some_cases(86, 25):
            told = tuple(c for c in range(len(pact[3])) if told_suit(pact, wish, c, c))
            self.equal(lone_charters(pact, wish), told)
            found[len(told) > 0] += 1
        self.assertGreater(min(found.values()), 20)

    def test_each_trust_counts(self):
        # Of two kinds, in a charter that is not come to: votes and asks of both, echoes of one kind with each other alone.
        for rule in RULES:
            for odd, plain, sworn in (
                ({}, True, True), ({("vote", 1, 0): A, ("ask", 1, 1): B}, False, False), ({("vote", 1, 1): A, ("ask", 1, 0): B}, False, False),
                ({("vote", 1, 0): A, ("vote", 1, 1): B}, True, True), ({("echo", 1, 0): A, ("echo", 1, 1): B}, True, True),
                ({("echo", 1, 1): ("any", 1, (A, B))}, True, False), ({("vote", 1, 0): A, ("ask", 0, 0): B}, True, True),
                ({("look", 1, 0): A, ("hold", 1, 0): B}, True, True),
            ):
                wish = ("any", 1, (A, B))
                for manner, lone in (("plain", plain), ("sworn", sworn)):
                    left_out = "echo" if manner == "plain" else "hold"
                    there = {place: odd[place] for place in odd if place[0] != left_out}
                    pact = single_pact(manner, rule, ((), (0,)), 2, there)
                    self.equal(lone_charters(pact, wish), (0, 1) if lone else (0,))
        self.equal(lone_charters(single_pact("plain", "own", ((),), 1, {}), AB), (0,))

    def test_wrong_ones(self):
        self.refused(BadPact(-1, "shape"), lone_charters, None, None)
        for wish, error in WRONG_WISHES:
            self.refused(error, lone_charters, PACT, wish)
