"""[4], [22], [27], (G2): where trusts hold."""

from assentwhole.errors import BadCounts, BadTrust
from assentwhole.holding import always_holds, holds, never_holds
from tests.samples import (
    BOTH, HUGE, LOTS, SMALL_LOTS, TWO, Checks, all_counts, sizes_of, some_trusts, told_holds, under,
)


class HoldingTests(Checks):
    def test_examples(self):
        self.equal((holds(LOTS, BOTH, (2, 1)), holds(LOTS, BOTH, (3, 0))), (True, False))
        self.equal((never_holds(LOTS, ("lot", 0, 4)), always_holds(LOTS, ("spare", ()))), (True, True))

    def test_each_kind(self):
        rows = (
            (("lot", 0, 0), (0, 0), True),
            (("lot", 0, 4), (3, 1), False),
            (("lot", 1, 1), (3, 0), False),
            (("any", 0, ()), (0, 0), True),
            (("any", 1, ()), (3, 1), False),
            (("any", 1, (TWO, ("lot", 1, 1))), (1, 1), True),
            (("any", 3, (TWO, TWO)), (3, 1), False),
            (("any", 2, (TWO, TWO)), (2, 0), True),
            (("heavy", 0, (), ()), (0, 0), True),
            (("heavy", 1, (), ()), (3, 1), False),
            (("heavy", 2, (2, 1), (TWO, ("lot", 1, 1))), (2, 0), True),
            (("heavy", 2, (2, 1), (TWO, ("lot", 1, 1))), (1, 1), False),
            (("heavy", 3, (2, 1), (TWO, ("lot", 1, 1))), (2, 1), True),
            (("heavy", 1, (0, 1), (TWO, ("lot", 1, 1))), (3, 0), False),
            (("least", ()), (3, 1), False),
            (("least", ((0, 0),)), (0, 0), True),
            (("least", ((0, 1), (2, 0))), (1, 1), True),
            (("least", ((0, 1), (2, 0))), (1, 0), False),
            (("spare", ()), (0, 0), True),
            (("spare", ((0, 0),)), (3, 1), False),
            (("spare", ((2, 0),)), (1, 1), False),
            (("spare", ((2, 0),)), (2, 0), True),
        )
        for trust, counts, wanted in rows:
            self.equal(holds(LOTS, trust, counts), wanted)

    def test_by_the_words_of_the_document(self):
        for lots in SMALL_LOTS:
            for trust in some_trusts(lots, 60):
                for counts in all_counts(lots):
                    self.equal(holds(lots, trust, counts), told_holds(lots, trust, counts))

    def test_what_holds_holds_above(self):
        for trust in some_trusts(LOTS, 80, seed=2):
            for one in all_counts(LOTS):
                for two in all_counts(LOTS):
                    if under(one, two) and holds(LOTS, trust, one):
                        self.assertTrue(holds(LOTS, trust, two))

    def test_never_and_always(self):
        for lots in SMALL_LOTS:
            for trust in some_trusts(lots, 60, seed=3):
                each = [told_holds(lots, trust, counts) for counts in all_counts(lots)]
                self.equal(never_holds(lots, trust), not any(each))
                self.equal(always_holds(lots, trust), all(each))
                self.equal(never_holds(lots, trust), not holds(lots, trust, sizes_of(lots)))
                self.equal(always_holds(lots, trust), holds(lots, trust, (0,) * len(lots)))

    def test_great_lots(self):
        trust = ("any", 2, (("lot", 0, 10 ** 12), ("spare", ((2, 1, 1),)), ("lot", 2, 500)))
        self.equal(holds(HUGE, trust, (10 ** 12, 0, 0)), True)
        self.equal(holds(HUGE, trust, (10 ** 12 - 1, 0, 499)), False)
        self.equal(holds(HUGE, trust, (10 ** 12 - 2, 1, 499)), False)
        self.equal(never_holds(HUGE, ("lot", 0, 10 ** 12 + 1)), True)

    def test_wrong_ones(self):
        self.refused(BadTrust(1, "lot"), holds, LOTS, ("any", 1, (("lot", 2, 1),)), (9, 9))
        self.refused(BadTrust(0, "shape"), holds, LOTS, ["lot", 0, 1], (0, 0))
        self.refused(BadCounts(0), holds, LOTS, TWO, (True, 0))
        self.refused(BadCounts(-1), holds, LOTS, TWO, [1, 0])
        self.refused(BadCounts(1), holds, counts=(3, 2), trust=TWO, lots=LOTS)
        for call in (never_holds, always_holds):
            self.refused(BadTrust(0, "many"), call, LOTS, ("lot", 0, 5))
            self.refused(BadTrust(0, "shape"), call, trust=None, lots=LOTS)
