"""[47], [10]: pairs of charters."""

from assentwhole.errors import BadPact
from assentwhole.pairings import pairs_of
from tests.samples import DUO, LOTS, ROW, RULES, Checks, some_pacts, told_behind


def pact_with(rule, *changes):
    return (LOTS, "plain", rule, ((ROW,),) * len(changes), changes)


def told_pairs(pact):
    """The pairs, straight from the words of the document."""
    rule, changes = pact[2], pact[4]
    come = told_behind(changes, 0)
    found = []
    for c in come:
        for d in come:
            own = c == d or c in changes[d] or d in changes[c]
            calm = own or any(c in changes[e] and d in changes[e] for e in come)
            if {"own": own, "calm": calm, "bold": True}[rule]:
                found.append((c, d))
    return tuple(found)


class PairTests(Checks):
    def test_examples(self):
        self.equal(pairs_of(DUO), ((0, 0), (0, 1), (1, 0), (1, 1)))

    def test_chain(self):
        near = ((0, 0), (0, 1), (1, 0), (1, 1), (1, 2), (2, 1), (2, 2))
        for rule in RULES:
            wanted = near if rule != "bold" else tuple((c, d) for c in range(3) for d in range(3))
            self.equal(pairs_of(pact_with(rule, (1,), (2,), ())), wanted)

    def test_star(self):
        own = ((0, 0), (0, 1), (0, 2), (1, 0), (1, 1), (2, 0), (2, 2))
        whole = tuple((c, d) for c in range(3) for d in range(3))
        self.equal(pairs_of(pact_with("own", (1, 2), (), ())), own)
        self.equal(pairs_of(pact_with("calm", (1, 2), (), ())), whole)
        self.equal(pairs_of(pact_with("bold", (1, 2), (), ())), whole)

    def test_charters_that_are_not_come_to(self):
        for rule in RULES:
            self.equal(pairs_of(pact_with(rule, (), (0, 2), ())), ((0, 0),))
        # 3 leads to both 1 and 2, but is not come to.
        changes = ((1,), (4,), (), (1, 2), (2,))
        self.assertNotIn((1, 2), pairs_of(pact_with("calm", *changes)))
        self.assertIn((1, 2), pairs_of(pact_with("calm", (1, 3), (4,), (), (1, 2), (2,))))
        self.assertIn((1, 2), pairs_of(pact_with("bold", *changes)))

    def test_many(self):
        for pact in some_pacts(40, 47, LOTS):
            self.equal(pairs_of(pact), told_pairs(pact))

    def test_wrong_pact(self):
        self.refused(BadPact(-1, "rule"), pairs_of, pact_with("Own", ()))
