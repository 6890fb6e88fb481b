"""[45]: pacts written as text."""

from assentwhole.errors import BadPact, NotUsable
from assentwhole.pacttexts import pact_text
from assentwhole.trusttexts import trust_text
from tests.samples import BOTH, DUO, KEPT, LOTS, PACT, ROW, SWORN, TWO, Checks, some_pacts

STEPS = ("ask", "echo", "vote", "look", "hold")


def told_text(pact, words):
    """The text, line by line from the words of the document."""
    lots, manner, rule, charters, changes = pact
    lines = [f"manner {manner}", f"rule {rule}"] + [f"lot {word} {size}" for word, size in lots]
    for word, rows in zip(words, charters):
        lines.append(f"charter {word}")
        for row in rows:
            told = [f"{step} {trust_text(lots, trust)}" for step, trust in zip(STEPS, row) if trust is not None]
            lines.append("row " + " ; ".join(told))
    lines += [f"change {words[c]} to " + " ".join(words[d] for d in after) for c, after in enumerate(changes) if after]
    return "\n".join(lines)


class PactTextTests(Checks):
    def test_examples(self):
        self.equal(
            pact_text(PACT, ("old",)),
            "manner plain\nrule own\nlot a 3\nlot b 1\ncharter old\nrow ask 2 in a ; vote 2 in a ; look 2 in a ; hold 2 in a",
        )

    def test_plain_and_sworn(self):
        self.equal(
            pact_text(DUO, ("a", "new")),
            "manner plain\nrule own\nlot a 3\nlot b 1\ncharter a\nrow ask 2 in a ; vote 2 in a ; look 2 in a ; hold 2 in a\n"
            "charter new\nrow ask 2 of (2 in a, 1 in b) ; vote 2 of (2 in a, 1 in b) ; look 2 of (2 in a, 1 in b) ; "
            "hold 2 of (2 in a, 1 in b)\nchange a to new",
        )
        self.equal(
            pact_text(SWORN, ("x",)),
            "manner sworn\nrule own\nlot n 4\ncharter x\nrow ask 3 in n ; echo 3 in n ; vote 3 in n ; look 3 in n",
        )

    def test_changes_ascend(self):
        pact = (LOTS, "plain", "bold", ((ROW,),) * 3, ((), (0, 2), (0, 1)))
        self.assertTrue(pact_text(pact, ("z", "y", "x")).endswith("\nchange y to z x\nchange x to z y"))

    def test_many(self):
        for pact in some_pacts(20, 45):
            words = ("c1", "abcdefgh", "x", "b")[:len(pact[3])]
            self.equal(pact_text(pact, words), told_text(pact, words))

    def test_wrong_words(self):
        for thing in (
            None, "ab", ["a", "b"], ("a",), ("a", "b", "c"), ("a", "a"), ("a", 1), ("a", "B"), ("a", ""), ("a", "abcdefghi"),
            ("a", "1b"), (True, "b"), ("a", None), ("a", ("b",)), ("a", ["b"]), (), 2,
        ):
            self.refused(NotUsable("words"), pact_text, DUO, thing)
        for word in KEPT:
            self.refused(NotUsable("words"), pact_text, PACT, (word,))
        self.refused(BadPact(0, "vote"), pact_text, (LOTS, "plain", "own", (((BOTH, None, 0, TWO, TWO),),), ((),)), None)
