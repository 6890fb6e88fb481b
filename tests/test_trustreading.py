"""[25], [27]: trusts read from text."""

import random

from assentwhole.errors import BadText, NotUsable
from assentwhole.mirrors import mirror_of
from assentwhole.trustreading import read_trust
from assentwhole.trusttexts import trust_text
from tests.samples import HUGE, KEPT, LOTS, SMALL_LOTS, TWO, Checks, some_trusts

ONLY = ("lot", 1, 1)


def deep_any(levels):
    trust = ("lot", 0, 1)
    for _ in range(levels):
        trust = ("any", 1, (trust,))
    return trust


class TrustReadingTests(Checks):
    def told(self, text, trust, names=(), lots=LOTS):
        self.equal(read_trust(lots, names, text), trust)

    def refuses(self, text, names=(), lots=LOTS):
        self.refused(BadText(0, "trust"), read_trust, lots, names, text)

    def test_examples(self):
        self.told("all of (t, b)", ("any", 2, (("lot", 0, 2), ("lot", 1, 1))), (("t", TWO),))
        self.told(" heavy 3 of(2 most in a,1 mirror (b))", ("heavy", 3, (2, 1), (("lot", 0, 2), ("lot", 1, 1))))
        self.refuses("least (2 a | 1 b)")

    def test_words(self):
        never = ("any", 1, ())
        names = (("t", TWO), ("nobody1", never), ("u", ("least", ((0, 1), (2, 0)))))
        self.told("t", TWO, names)
        self.told(" nobody1 ", never, names)
        self.told("u", names[2][1], names)
        self.told("a", ("lot", 0, 1), names)
        self.told("b", ONLY, names)
        for text in ("c", "T", "aa", "ab", "a b", "a a", "t t", "nobody", "of", "in", "lot", "2", "0", "a2", "2a"):
            self.refuses(text, names)

    def test_in_a_lot(self):
        self.told("0 in a", ("lot", 0, 0))
        self.told("4 in a", ("lot", 0, 4))
        self.told("most in a", ("lot", 0, 2))
        self.told("all in a", ("lot", 0, 3))
        self.told("most in b", ("lot", 1, 1))
        self.told("all in b", ("lot", 1, 1))
        self.told("most in big", ("lot", 0, 5 * 10 ** 11 + 1), lots=HUGE)
        self.told("most in mid", ("lot", 2, 501), lots=HUGE)
        self.told("all in big", ("lot", 0, 10 ** 12), lots=HUGE)
        self.told("1000000000001 in big", ("lot", 0, 10 ** 12 + 1), lots=HUGE)
        for text in (
            "5 in a", "3 in b", "one in a", "heavy in a", "02 in a", "00 in a", "-1 in a", "+1 in a", "2in a", "2 ina",
            "2 in", "in a", "2 in c", "2 in 2", "2 in t", "2 in (a)", "2 in a b", "least in a", "1 in in", "1 1 in a",
        ):
            self.refuses(text, (("t", TWO),))

    def test_of_parts(self):
        parts = (("lot", 0, 1), ONLY)
        self.told("2 of (a, b)", ("any", 2, parts))
        self.told("one of (a, b)", ("any", 1, parts))
        self.told("most of (a, b)", ("any", 2, parts))
        self.told("most of (a, b, a)", ("any", 2, parts + parts[:1]))
        self.told("all of (a, b)", ("any", 2, parts))
        self.told("0 of (a, b)", ("any", 0, parts))
        self.told("3 of (a, b)", ("any", 3, parts))
        self.told("0 of ()", ("any", 0, ()))
        self.told("1 of ()", ("any", 1, ()))
        self.told("one of ( )", ("any", 1, ()))
        self.told("most of ()", ("any", 1, ()))
        self.told("all of ()", ("any", 0, ()))
        self.told("1 of(1 of(1 of(2 in a)))", ("any", 1, (("any", 1, (("any", 1, (TWO,)),)),)))
        for text in (
            "4 of (a, b)", "2 of ()", "2 of a", "2 of (a b)", "2 of (a, b", "2 of a, b)", "2 of (a, b))", "2 of (, a)",
            "2 of (a, )", "2 of (a,, b)", "2 of (a | b)", "2 (a, b)", "of (a, b)", "2 of", "2 of (", "1 of (())",
            "one of (5 in a)", "(a)", "()", "01 of (a)", "all of all of (a)", "2 of [a, b]", "1of (a)", "any 1 of (a)",
        ):
            self.refuses(text)

    def test_heavy(self):
        self.told("heavy 0 of ()", ("heavy", 0, (), ()))
        self.told("heavy 1 of ()", ("heavy", 1, (), ()))
        self.told("heavy 6 of (2 a, 3 2 in a)", ("heavy", 6, (2, 3), (("lot", 0, 1), TWO)))
        self.told("heavy 1 of (0 b)", ("heavy", 1, (0,), (ONLY,)))
        self.told("heavy 1 of (1 2 of ( a,b ))", ("heavy", 1, (1,), (("any", 2, (("lot", 0, 1), ONLY)),)))
        for text in (
            "heavy 2 of ()", "heavy 7 of (2 a, 3 b)", "heavy of (1 a)", "heavy 1 (1 a)", "heavy 1 of (a)",
            "heavy 1 of (1)", "heavy 1 of (01 a)", "heavy 01 of (1 a)", "heavy one of (1 a)", "heavy 1 of (1 a | 1 b)",
            "heavy 1 of (1 a,)", "heavy 1 of (1a)", "heavy 1 in a", "heavy", "heavy 1", "heavy 1 of 1 a", "heavy 1of (1 a)",
        ):
            self.refuses(text)

    def test_stairs(self):
        for kind in ("least", "spare"):
            self.told(kind + " ()", (kind, ()))
            self.told(kind + "(nobody)", (kind, ((0, 0),)))
            self.told(kind + " (1 b | 2 a)", (kind, ((0, 1), (2, 0))))
            self.told(kind + " ( 3 a 1 b )", (kind, ((3, 1),)))
            for rest in (
                "", "1 a", "(0 a)", "(4 a)", "(2 b)", "(1 b 1 a)", "(1 a 1 a)", "(2 a | 1 b)", "(1 a | 1 a)",
                "(1 a | 2 a)", "(nobody | 1 a)", "(nobody 1 a)", "(1 a nobody)", "(1 a, 1 b)", "(1 a |)", "(| 1 a)",
                "(|)", "(a)", "(1)", "(1 c)", "(01 a)", "(1 a", "1 a)", "(1 in a)", "of (1 a)", "((1 a))", "(1 a||1 b)",
                "(1 a) a", "(nobody | nobody)", "(2 a | 1 a 1 b)", "(1 t)",
            ):
                self.refuses(f"{kind} {rest}", (("t", TWO),))

    def test_mirror(self):
        inner = "heavy 2 of (2 least (1 b | 2 a), 1 most in a)"
        self.told(f"mirror ({inner})", mirror_of(LOTS, read_trust(LOTS, (), inner)))
        self.told("mirror (mirror (2 in a))", TWO)
        self.told("mirror(t)", ("spare", ((0, 1),)), (("t", ("least", ((0, 1),))),))
        self.told("1 of (mirror (0 in a))", ("any", 1, (("lot", 0, 4),)))
        for text in (
            "mirror ()", "mirror a", "mirror (a, b)", "mirror (5 in a)", "mirror (least (2 a | 1 b))", "mirror", "mirror (",
            "mirror (2 of ())", "mirror (c in a)", "mirror (c of (a))", "mirror (heavy c of ())", "mirror (a) b", "mirror of (a)", "mirror (mirror a)",
        ):
            self.refuses(text)

    def test_blanks(self):
        self.told("  2   of(a,   2    in  a )  ", ("any", 2, (("lot", 0, 1), TWO)))
        self.told("2 of(a,b)", ("any", 2, (("lot", 0, 1), ONLY)))
        self.told("least(1 b|2 a)", ("least", ((0, 1), (2, 0))))
        for text in ("", " ", "    ", "a\n", "\na", "a\t", "2\nin a", "2 o f (a)", "le ast ()", "2 i n a"):
            self.refuses(text)

    def test_other_characters(self):
        for text in ("A", "a.", "a;", "a=", "2 In a", "a_b", "a-b", "(a]", "#a", "2 of (a; b)", "\xe9", "a\u0661", "\u0661 in a"):
            self.refuses(text)

    def test_great_numbers(self):
        self.told("heavy 1 of (1000000 a)", ("heavy", 1, (10 ** 6,), (("lot", 0, 1),)))
        self.refuses("1" + "0" * 5000 + " in a")
        self.refuses("1" + "0" * 3900 + " in a")

    def test_most_brackets(self):
        text, trust = "a", ("lot", 0, 1)
        for _ in range(8):
            text, trust = f"mirror ({text})", mirror_of(LOTS, trust)
        self.told(text, trust)
        self.told("1 of (" * 30 + "a" + ")" * 30, deep_any(30))
        self.told("1 of (" + ", ".join(["1 of (a)"] * 75) + ")", ("any", 1, (deep_any(1),) * 75))
        self.refuses("mirror (" * 500 + "a")
        self.refuses("(" * 4000)

    def test_names(self):
        deep = ("any", 1, (TWO, ("heavy", 1, (1,), (ONLY,))))
        self.told("abcdefgh", deep, (("abcdefgh", deep),))
        self.told("1 of (x, x, y9)", ("any", 1, (deep, deep, TWO)), (("x", deep), ("y9", TWO)))
        wrong = (
            None, [], [("t", TWO)], "", 5, (None,), ("ab",), (["t", TWO],), (("t",),), (("t", TWO, 1),), (("t", 5),),
            (("t", ("lot", 0, 9)),), (("t", ("lot", 0, True)),), (("t", None),), ((None, TWO),), ((1, TWO),), ((("t",), TWO),),
            (("a", TWO),), (("b", TWO),), (("t", TWO), ("t", TWO)), (("T", TWO),), (("", TWO),), (("abcdefghi", TWO),),
            (("1t", TWO),), (("t", TWO), ("u",)), (("t ", TWO),), (("t", ["lot", 0, 1]),),
        )
        for names in wrong + tuple(((word, TWO),) for word in KEPT):
            self.refused(NotUsable("names"), read_trust, LOTS, names, 5)

    def test_wrong_text(self):
        for text in (None, 5, True, ("a",), ["a"]):
            self.refused(NotUsable("text"), read_trust, LOTS, (), text)
        self.refused(NotUsable("text"), read_trust, text=b"a", names=(), lots=LOTS)

    def test_what_was_written_is_read_again(self):
        for lots in SMALL_LOTS + (HUGE,):
            for trust in some_trusts(lots, 150 if lots != HUGE else 0, seed=8):
                self.told(trust_text(lots, trust), trust, lots=lots)

    def test_some_text_cut_or_changed(self):
        dice = random.Random(9)
        signs = ["(", ")", ",", "|", " ", "2", "a", "of", "in", "least", "nobody", "mirror", "heavy", "0", "one"]
        for trust in some_trusts(LOTS, 150, seed=10):
            words = trust_text(LOTS, trust).replace("(", " ( ").replace(")", " ) ").replace(",", " , ").split()
            at = dice.randrange(len(words))
            if dice.random() < 0.5:
                words[at:at + 1] = []
            else:
                words[at] = dice.choice(signs)
            try:
                found = read_trust(LOTS, (), " ".join(words))
            except BadText as error:
                self.equal((error.line, error.word), (0, "trust"))
            else:
                self.told(trust_text(LOTS, found), found)
