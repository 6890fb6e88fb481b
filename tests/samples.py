"""What several tests share: values, and checks that know True from 1."""

import itertools
import random
import unittest

LOTS = (("a", 3), ("b", 1))
TWO = ("lot", 0, 2)
BOTH = ("any", 2, (TWO, ("lot", 1, 1)))
FOUR = (("n", 4),)
THREE = ("lot", 0, 3)
ONLY = ("lot", 1, 1)
ROW = (TWO, None, TWO, TWO, TWO)
MORE = (BOTH, None, BOTH, BOTH, BOTH)
PACT = (LOTS, "plain", "own", ((ROW,),), ((),))
DUO = (LOTS, "plain", "own", ((ROW,), (MORE,)), ((1,), ()))
SWORN = (FOUR, "sworn", "own", (((THREE, THREE, THREE, THREE, None),),), ((),))
RULES = ("own", "calm", "bold")
HUGE = (("big", 10 ** 12), ("one1", 1), ("mid", 1000))
SMALL_LOTS = (
    (("a", 1),),
    (("a", 4),),
    (("a", 2), ("b", 1)),
    (("a", 3), ("b", 1)),
    (("a", 2), ("b", 2)),
    (("a", 1), ("b", 1), ("c", 1)),
    (("a", 2), ("b", 1), ("c", 1)),
)

KEPT = (
    "of", "in", "most", "all", "one", "heavy", "least", "spare", "mirror", "nobody", "manner", "rule",
    "lot", "trust", "charter", "row", "ask", "echo", "vote", "look", "hold", "change", "to",
)


def same(one, two):
    """Whether two values are equal with equal kinds throughout."""
    if type(one) is not type(two):
        return False
    if isinstance(one, (tuple, list)):
        return len(one) == len(two) and all(same(a, b) for a, b in zip(one, two))
    if hasattr(one, "text_of"):
        return same(one.words(), two.words()) and all(same(one.text_of(word), two.text_of(word)) for word in one.words())
    if hasattr(one, "desks"):
        return all(same(getattr(one, name)(), getattr(two, name)()) for name in ("moves", "desks", "settled", "awake"))
    return one == two


class Checks(unittest.TestCase):
    def equal(self, found, wanted):
        self.assertTrue(same(found, wanted), f"{found!r} is not {wanted!r}")

    def refused(self, wanted, call, *args, **named):
        """call raises just the error wanted, with its fields."""
        try:
            found = call(*args, **named)
        except ValueError as error:
            self.assertIs(type(error), type(wanted), f"{error!r}, not {wanted!r}")
            self.equal(sorted(vars(error)), sorted(vars(wanted)))
            for field, value in vars(wanted).items():
                self.equal(getattr(error, field), value)
        else:
            self.fail(f"no {wanted!r}, but {found!r}")


def sizes_of(lots):
    return tuple(size for _, size in lots)


def all_counts(lots):
    """All counts over small lots, ascending."""
    return list(itertools.product(*(range(size + 1) for _, size in lots)))


def under(one, two):
    return all(a <= b for a, b in zip(one, two))


def all_stairs(lots):
    """All stairs over small lots."""
    found = [()]
    for counts in all_counts(lots):
        found += [
            stair + (counts,)
            for stair in found
            if not any(under(member, counts) for member in stair)
        ]
    return found


def random_stair(dice, lots, many=4):
    rows = {tuple(dice.randint(0, size) for _, size in lots) for _ in range(dice.randint(0, many))}
    return tuple(sorted(row for row in rows if not any(under(o, row) and o != row for o in rows)))


def random_trust(dice, lots, depth=3):
    """Some trust, at most so deep."""
    kind = dice.choice(("lot", "lot", "least", "spare", "any", "any", "heavy"))
    if depth == 1 and kind in ("any", "heavy"):
        kind = "lot"
    if kind == "lot":
        at = dice.randrange(len(lots))
        return kind, at, dice.randint(0, lots[at][1] + 1)
    if kind in ("least", "spare"):
        return kind, random_stair(dice, lots)
    parts = tuple(random_trust(dice, lots, depth - 1) for _ in range(dice.randint(0, 4)))
    if kind == "any":
        return kind, dice.randint(0, len(parts) + 1), parts
    weights = tuple(dice.randint(0, 3) for _ in parts)
    return kind, dice.randint(0, sum(weights) + 1), weights, parts


def some_trusts(lots, many, seed=1):
    dice = random.Random(seed)
    return [random_trust(dice, lots) for _ in range(many)]


def told_holds(lots, trust, counts):
    """Whether trust holds at counts, straight from the words of the document."""
    kind = trust[0]
    if kind == "lot":
        return counts[trust[1]] >= trust[2]
    if kind == "any":
        return len([part for part in trust[2] if told_holds(lots, part, counts)]) >= trust[1]
    if kind == "heavy":
        pairs = zip(trust[2], trust[3])
        return sum(weight for weight, part in pairs if told_holds(lots, part, counts)) >= trust[1]
    if kind == "least":
        return any(under(member, counts) for member in trust[1])
    left = tuple(size - number for (_, size), number in zip(lots, counts))
    return not any(under(member, left) for member in trust[1])


def told_stair(lots, test):
    """The stair that holds at the counts that pass the test, by all counts."""
    found = []
    for counts in all_counts(lots):
        if test(counts) and not any(under(member, counts) for member in found):
            found.append(counts)
    return tuple(found)


class Houses:
    """All crowds of small lots, each a number with a bit for each house."""

    def __init__(self, lots):
        self.lots = lots
        self.places = [at for at, (_, size) in enumerate(lots) for _ in range(size)]
        self.crowds = range(1 << len(self.places))
        self.counts = [self.counts_of(crowd) for crowd in self.crowds]

    def counts_of(self, crowd):
        counts = [0] * len(self.lots)
        for bit, place in enumerate(self.places):
            if crowd >> bit & 1:
                counts[place] += 1
        return tuple(counts)

    def others(self, crowd):
        return len(self.crowds) - 1 - crowd

    def within_stair(self, stair):
        """The crowds that are in a stair."""
        return {crowd for crowd in self.crowds if any(under(m, self.counts[crowd]) for m in stair)}

    def in_trust(self, trust):
        """The crowds that are in a trust."""
        return {crowd for crowd in self.crowds if told_holds(self.lots, trust, self.counts[crowd])}

    def common(self, one, two):
        """The common of two sets of crowds, by all pairs of them."""
        least = {a & b for a in one for b in two}
        return {crowd for crowd in self.crowds if any(crowd & low == low for low in least)}

    def stair(self, crowds):
        """The stair of a set of crowds that counts alone decide; None if they do not."""
        counts = {self.counts[crowd] for crowd in crowds}
        if len(crowds) != sum(1 for crowd in self.crowds if self.counts[crowd] in counts):
            return None
        return told_stair(self.lots, lambda row: row in counts)


def step_trust(dice, lots):
    """Some trust that everyone is in, and nobody is not."""
    while True:
        trust = random_trust(dice, lots, 2)
        if told_holds(lots, trust, sizes_of(lots)) and not told_holds(lots, trust, (0,) * len(lots)):
            return trust


def random_pact(dice, lots, manner, rule, charters=3, kinds=1, share=3):
    """Some pact; about one in share changes is let."""
    def row():
        trusts = [step_trust(dice, lots) for _ in range(5)]
        trusts[1 if manner == "plain" else 4] = None
        return tuple(trusts)

    rows = tuple(tuple(row() for _ in range(kinds)) for _ in range(charters))
    changes = tuple(
        tuple(d for d in range(charters) if d != c and dice.randrange(share) == 0) for c in range(charters)
    )
    return lots, manner, rule, rows, changes


def some_pacts(many, seed=1, lots=None, kinds=2, manners=("plain", "sworn")):
    """Small pacts of all manners and rules."""
    dice = random.Random(seed)
    for at in range(many):
        there = SMALL_LOTS[at % len(SMALL_LOTS)] if lots is None else lots
        for manner in manners:
            for rule in RULES:
                yield random_pact(dice, there, manner, rule, dice.randint(1, 4), dice.randint(1, kinds), dice.randint(1, 4))


def told_behind(changes, start):
    """The charters behind start, by the words of the document, over and over."""
    found = {start}
    while True:
        more = found | {d for c in found for d in changes[c]}
        if more == found:
            return tuple(sorted(found))
        found = more
