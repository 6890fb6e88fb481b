"""[38], [40]: papers, open exactly where two trusts do not meet for a wish."""

import random

from assentwhole.errors import BadTrust
from assentwhole.orders import meets
from assentwhole.paperchecks import is_paper
from assentwhole.papers import paper
from assentwhole.stairs import stair_of
from tests.samples import BOTH, HUGE, LOTS, SMALL_LOTS, TWO, Checks, all_counts, random_trust, told_holds

ALWAYS, NEVER = ("lot", 0, 0), ("any", 1, ())


def is_met(lots, first, second, wish):
    """Whether all counts of the two have a wished common, by all counts."""
    for one in all_counts(lots):
        for two in all_counts(lots):
            common = tuple(max(0, a + b - size) for a, b, (_, size) in zip(one, two, lots))
            if told_holds(lots, first, one) and told_holds(lots, second, two) and not told_holds(lots, wish, common):
                return False
    return True


class PaperTests(Checks):
    def right(self, lots, first, second, wish):
        """The paper is accepted; returns its word."""
        found = paper(lots, first, second, wish)
        self.assertIs(is_paper(lots, first, second, wish, found), True)
        met = meets(lots, stair_of(lots, first), stair_of(lots, second), stair_of(lots, wish))
        self.equal(found[0], "closed" if met else "open")
        self.equal(len(found), 2 if met else 3)
        return found[0]

    def test_examples(self):
        self.equal(paper(LOTS, TWO, TWO, TWO)[0], "open")
        self.equal(self.right(LOTS, TWO, TWO, ("lot", 0, 1)), "closed")

    def test_small_ones_against_all_counts(self):
        dice = random.Random(38)
        words = {"open": 0, "closed": 0}
        for lots in SMALL_LOTS:
            for _ in range(60):
                first, second, wish = [random_trust(dice, lots) for _ in range(3)]
                word = self.right(lots, first, second, wish)
                self.equal(word == "closed", is_met(lots, first, second, wish))
                words[word] += 1
        self.assertGreater(min(words.values()), 100)

    def test_wishes_that_hold_always_or_never(self):
        self.equal(paper(LOTS, TWO, BOTH, ALWAYS), ("closed", (("wish",),)))
        self.equal(paper(LOTS, NEVER, BOTH, NEVER), ("closed", (("first",),)))
        self.equal(paper(LOTS, TWO, NEVER, NEVER), ("closed", (("second",),)))
        self.equal(self.right(LOTS, TWO, BOTH, NEVER), "open")
        self.equal(paper(LOTS, ALWAYS, ALWAYS, TWO), ("open", (0, 0), (0, 0)))
        self.equal(paper(LOTS, ALWAYS, ALWAYS, ALWAYS), ("closed", (("wish",),)))

    def test_huge_lots(self):
        most = ("lot", 0, 2 * 10 ** 12 // 3 + 1)
        self.equal(self.right(HUGE, most, most, ("lot", 0, 10 ** 12 // 3)), "closed")
        self.equal(self.right(HUGE, most, most, ("lot", 0, 10 ** 12 // 3 + 2)), "open")

    def test_many_atoms(self):
        lots = (("a", 10 ** 9), ("b", 10 ** 9))
        rows = tuple((7 * at, 100 - 3 * at) for at in range(1, 30))
        for wish in (("lot", 0, 0), ("lot", 0, 1), ("least", rows[:5]), ("spare", rows)):
            self.right(lots, ("least", rows[:12]), ("spare", rows[12:24]), wish)
            self.right(lots, ("spare", rows[:12]), ("spare", rows[12:24]), wish)

    def test_as_many_leaves_as_the_grids_let(self):
        lots = (("a", 1000), ("b", 1000))
        first = ("least", tuple((at, 11 - at) for at in range(12)))
        second = ("least", tuple((90 * at, 1000 - 90 * at) for at in range(11)))
        self.right(lots, first, second, ("any", 1, (("lot", 0, 10), ("lot", 1, 10))))
        self.right(lots, second, second, ("least", ((0, 800), (450, 450), (900, 0))))

    def test_it_stays_as_deep_as_it_has_to_be(self):
        lots = (("a", 10 ** 6),)
        parts = tuple(("any", 1, tuple(("lot", 0, 12 * k + j + 1) for j in range(11))) for k in range(6))
        self.right(lots, ("any", 4, parts), ("any", 2, parts), ("lot", 0, 1))
        self.right(lots, ("spare", ((999999,),)), ("any", 2, parts), ("lot", 0, 0))

    def test_wrong_trusts(self):
        self.refused(BadTrust(0, "shape"), paper, LOTS, ["lot", 0, 1], TWO, TWO)
        self.refused(BadTrust(0, "lot"), paper, LOTS, TWO, ("lot", True, 1), TWO)
        self.refused(BadTrust(1, "many"), paper, LOTS, TWO, TWO, ("any", 1, (("lot", 0, 5),)))
