"""[26], [27]: trusts as text."""

import re

from assentwhole.errors import BadTrust
from assentwhole.trustreading import read_trust
from assentwhole.trusttexts import trust_text
from tests.samples import BOTH, HUGE, LOTS, TWO, Checks, some_trusts


class TrustTextTests(Checks):
    def test_examples(self):
        trust = ("heavy", 3, (2, 1), (TWO, ("least", ((0, 1), (2, 0)))))
        self.equal(trust_text(LOTS, trust), "heavy 3 of (2 2 in a, 1 least (1 b | 2 a))")
        trust = ("any", 0, (("lot", 1, 2), ("spare", ((0, 0),))))
        self.equal(trust_text(LOTS, trust), "0 of (2 in b, spare (nobody))")

    def test_forms(self):
        for trust, text in (
            (("lot", 0, 1), "1 in a"),
            (("lot", 0, 0), "0 in a"),
            (BOTH, "2 of (2 in a, 1 in b)"),
            (("any", 1, ()), "1 of ()"),
            (("heavy", 0, (), ()), "heavy 0 of ()"),
            (("least", ()), "least ()"),
            (("spare", ((3, 1),)), "spare (3 a 1 b)"),
            (("least", ((0, 0),)), "least (nobody)"),
        ):
            self.equal(trust_text(lots=LOTS, trust=trust), text)
        self.equal(trust_text(HUGE, ("least", ((0, 1, 7), (10 ** 12, 0, 0)))), "least (1 one1 7 mid | 1000000000000 big)")

    def test_blanks(self):
        for trust in some_trusts(LOTS, 150, seed=11):
            text = trust_text(LOTS, trust)
            self.assertRegex(text, r"^[a-z0-9(),| ]*$")
            self.assertEqual(text, text.strip())
            self.assertNotIn("  ", text)
            self.assertFalse(re.search(r"\( | \)| ,|,[^ ]|[^ (]\(|\|[^ ]|[^ ]\|", text), text)
            self.equal(read_trust(LOTS, (), text), trust)

    def test_wide_and_deep(self):
        parts = tuple(("lot", at % 2, at % 2) for at in range(12))
        trust = ("any", 3, parts)
        for _ in range(5):
            trust = ("heavy", 10 ** 6, (10 ** 6, 1), (trust, TWO))
        self.equal(read_trust(LOTS, (), trust_text(LOTS, trust)), trust)

    def test_wrong_ones(self):
        self.refused(BadTrust(0, "shape"), trust_text, LOTS, 5)
        self.refused(BadTrust(1, "many"), trust_text, LOTS, ("any", 1, (("lot", 0, True),)))
