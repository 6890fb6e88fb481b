"""[44], [54]: pacts read from text."""

import random

from assentwhole.errors import BadPact, BadText, NotUsable
from assentwhole.pactreading import read_pact
from assentwhole.pacttexts import pact_text
from tests.samples import DUO, KEPT, LOTS, PACT, Checks, some_pacts

OLD = "manner plain\nrule own\n\nlot a 3\nlot b 1\ntrust two = 2 in a\ncharter old\nrow ask two;vote two;look two;hold two"
HEAD = "manner plain\nrule own\nlot a 3\nlot b 1\n"
ROW_LINE = "row ask a ; vote a ; look a ; hold a"
A = ("lot", 0, 1)
ROW_A = (A, None, A, A, A)
FULL = HEAD + "trust t = a\ncharter x\n" + ROW_LINE + "\ncharter y\n" + ROW_LINE + "\nchange x to y"


class PactReadingTests(Checks):
    def told(self, text, pact, words):
        self.equal(read_pact(text), (pact, words))

    def bad(self, line, word, text):
        self.refused(BadText(line, word), read_pact, text)

    def rows(self, text, row, manner="plain"):
        """A row line that tells this row."""
        lines = f"manner {manner}\nrule bold\nlot a 3\nlot b 1\ntrust two = 2 in a\ncharter one1\n{text}"
        self.told(lines, (LOTS, manner, "bold", ((row,),), ((),)), ("one1",))

    def test_examples(self):
        self.told(OLD, PACT, ("old",))
        self.bad(8, "line", OLD + "\nchange old to old")
        self.bad(1, "place", "manner plain\nlot a 3")
        self.bad(2, "place", "manner plain\n# more")

    def test_blanks_empty_lines_and_lines_to_pass_over(self):
        text = (
            "#\n   \n  manner   plain \n\n rule  own\n # rule calm\nlot a  3\n#lot a 3\n lot   b 1  \n"
            "  trust   two=2 in a\n\ncharter  old \n\n#\n  row   ask   two  ;vote two;  look two ;   hold  two  \n   \n"
        )
        self.told(text, PACT, ("old",))
        self.told(text + "#change", PACT, ("old",))
        self.told(OLD.replace("=", " =  "), PACT, ("old",))
        self.told(OLD.replace("\n", "\n\n # \n"), PACT, ("old",))

    def test_other_blanks_are_none(self):
        self.bad(0, "place", "\t\n" + OLD)
        self.bad(0, "place", "manner\tplain\n" + OLD)
        self.bad(1, "place", OLD.replace("\n", "\n\r\n", 1))
        self.bad(0, "line", OLD.replace("plain", "plain\r"))
        self.bad(7, "line", OLD + "\t")
        self.bad(1, "place", "")

    def test_every_line_too_few_at_the_end(self):
        lines = FULL.split("\n")
        for many in range(len(lines) + 1):
            text = "\n".join(lines[:many])
            if many in (7, 9, 10):
                read_pact(text)
                continue
            self.bad(max(many, 1), "place", text)
            self.bad(max(many, 1) + 2, "place", text + "\n#\n")

    def test_first_words_in_their_places(self):
        words = ("manner", "rule", "lot", "trust", "charter", "row", "change")
        follow = {
            "": {"manner"}, "manner": {"rule"}, "rule": {"lot"}, "lot": {"lot", "trust", "charter"},
            "trust": {"trust", "charter"}, "charter": {"row"}, "row": {"row", "charter", "change"}, "change": {"change"},
        }
        lines = [""] + FULL.split("\n")
        for at, line in enumerate(lines):
            ahead = "\n".join(lines[1:at + 1]) + ("\n" if at else "")
            for word in words + ("old", "of", "=", "Row", "rows", "ro", "charter=", "row;", "trust=t", "1", "x", ";"):
                right = word in follow[line.split(" ")[0]]
                self.bad(at, "line" if right else "place", ahead + word)
                self.bad(at, "line" if right else "place", ahead + "  " + word + "  ")
                self.bad(at, "line" if right else "place", ahead + word + " ?")

    def test_manner_and_rule(self):
        for line in ("manner", "manner Plain", "manner plain plain", "manner plain;", "manner own", "manner = plain", "manner #"):
            self.bad(0, "line", line)
        for line in ("rule", "rule Own", "rule own own", "rule plain", "rule=own calm", "rule own#", "rule ownn"):
            self.bad(1, "place" if line.startswith("rule=") else "line", "manner plain\n" + line)
        self.bad(1, "place", "manner plain\nmanner plain")
        self.bad(2, "place", "manner plain\nrule own\nrule own")
        for manner in ("plain", "sworn"):
            for rule in ("own", "calm", "bold"):
                last = "hold a" if manner == "plain" else "echo a"
                steps = ["ask a", "vote a", "look a", last] if manner == "plain" else ["ask a", last, "vote a", "look a"]
                text = f"manner {manner}\nrule {rule}\nlot a 3\ncharter x\nrow " + ";".join(steps)
                row = ROW_A if manner == "plain" else (A, A, A, A, None)
                self.told(text, ((("a", 3),), manner, rule, ((row,),), ((),)), ("x",))

    def test_lots(self):
        for line in (
            "lot", "lot a", "lot a 3 3", "lot a 0", "lot a 03", "lot a +3", "lot a -1", "lot a three", "lot 3 a", "lot A 3",
            "lot 1a 3", "lot abcdefghi 3", "lot a= 3", "lot a = 3", "lot a 3;", "lot a 1_0", "lot of 3", "lot a 3 #",
        ):
            self.bad(2, "line", "manner plain\nrule own\n" + line)
        for word in KEPT:
            self.bad(2, "line", f"manner plain\nrule own\nlot {word} 3")
        self.bad(3, "line", "manner plain\nrule own\nlot a 3\nlot a 3")
        size = 10 ** 12
        text = f"manner plain\nrule own\nlot abcdefg8 {size}\ncharter x\nrow ask abcdefg8;vote abcdefg8;look abcdefg8;hold abcdefg8"
        self.told(text, ((("abcdefg8", size),), "plain", "own", ((ROW_A,),), ((),)), ("x",))

    def test_trusts(self):
        behind = "\ncharter x\nrow ask t;vote t;look t;hold t"
        for told, trust in (
            ("t = a", A), ("t=a", A), ("  t  =  2 in a ", ("lot", 0, 2)), ("t = heavy 1 of (1 a, 0 b)", ("heavy", 1, (1, 0), (A, ("lot", 1, 1)))),
            ("t =mirror (a)", ("lot", 0, 3)), ("t = least (1 a | 1 b)", None), ("t=least(1 b|2 a)", ("least", ((0, 1), (2, 0)))),
        ):
            if trust is None:
                self.bad(4, "line", HEAD + "trust " + told + behind)
            else:
                row = (trust, None, trust, trust, trust)
                self.told(HEAD + "trust " + told + behind, (LOTS, "plain", "own", ((row,),), ((),)), ("x",))
        for told in (
            "", "t", "t =", "= a", "t a", "t = = a", "t = a = a", "t t = a", "T = a", "a = a", "b = a", "of = a", "t = t", "t = u",
            "t = 5 in a", "t = a;", "t = (a)", "t = a b", "t == a", "t: a", "abcdefghi = a", "1 = a", "t = A", "t = two",
        ):
            self.bad(4, "line", HEAD + "trust " + told + behind)
        for line in ("trust t = b", "trust a = a", "trust u = v", "trust v = v"):
            self.bad(5, "line", HEAD + "trust t = a\n" + line + behind)
        names = HEAD + "trust t = 2 in a\ntrust u = all of (t, b)\ntrust v = one of (t, u)\ncharter x\n"
        u = ("any", 2, (("lot", 0, 2), ("lot", 1, 1)))
        row = (u, None, ("lot", 0, 2), ("any", 1, (("lot", 0, 2), u)), ("lot", 1, 1))
        self.told(names + "row ask u;vote t;look v;hold b", (LOTS, "plain", "own", ((row,),), ((),)), ("x",))

    def test_trusts_need_not_be_of_steps(self):
        text = HEAD + "trust t = 0 in a\ntrust u = all of (4 in a)\ncharter x\n"
        self.told(text + ROW_LINE, (LOTS, "plain", "own", ((ROW_A,),), ((),)), ("x",))
        for at, step in enumerate(("ask", "vote", "look", "hold")):
            for word in "tu":
                parts = ["ask a", "vote a", "look a", "hold a"]
                parts[at] = f"{step} {word}"
                self.refused(BadPact(0, step), read_pact, text + "row " + ";".join(parts))
                self.refused(BadPact(1, step), read_pact, text + ROW_LINE + "\nrow " + ";".join(parts))

    def test_rows(self):
        two, b = ("lot", 0, 2), ("lot", 1, 1)
        self.rows("row ask two;vote a;look b;hold two", (two, None, A, b, two))
        self.rows(" row  ask  2 in a ; vote a;look  one of (a , b) ;hold b ", (two, None, A, ("any", 1, (A, b)), b))
        self.rows("row ask a;echo two;vote b;look a", (A, two, b, A, None), "sworn")
        head = HEAD + "charter x\n"
        for line in (
            "row", "row ask a", "row ask a;vote a;look a", "row ask a;vote a;look a;hold a;", "row;ask a;vote a;look a;hold a",
            "row ask a;echo a;vote a;look a", "row vote a;ask a;look a;hold a", "row ask a vote a look a hold a",
            "row ask;vote a;look a;hold a", "row ask a;vote;look a;hold a", "row ask a;vote a;look a;hold", "row ask(a);vote a;look a;hold a",
            "row aska;vote a;look a;hold a", "row ask a;votea;look a;hold a", "row ask a;vote a;look a;hold a b", "row ask=a;vote a;look a;hold a",
            "row ask a;vote a;look a;hold t", "row ask a;vote a;look a;hold 5 in a", "row row ask a;vote a;look a;hold a", "row ask a;;vote a;look a;hold a",
            "row ask a;vote a;look a;hold a;hold a", "row ask ask a;vote a;look a;hold a", "row Ask a;vote a;look a;hold a", "row ask a,vote a,look a,hold a",
        ):
            word = "place" if line.startswith("row;") else "line"
            self.bad(5, word, head + line)
            self.bad(6, word, head + ROW_LINE + "\n" + line)
            self.bad(7, word, head + ROW_LINE + "\ncharter y\n" + line)

    def test_unlike_numbers_of_rows(self):
        self.refused(BadPact(-1, "charters"), read_pact, HEAD + f"charter x\n{ROW_LINE}\n{ROW_LINE}\ncharter y\n{ROW_LINE}")
        text = HEAD + f"charter x\n{ROW_LINE}\n{ROW_LINE}\ncharter y\n{ROW_LINE}\n{ROW_LINE}"
        self.told(text, (LOTS, "plain", "own", ((ROW_A, ROW_A), (ROW_A, ROW_A)), ((), ())), ("x", "y"))

    def test_charters(self):
        for line in ("charter", "charter X", "charter x y", "charter of", "charter 1", "charter abcdefghi", "charter x;", "charter x ="):
            self.bad(4, "line", HEAD + line)
        self.bad(6, "line", HEAD + f"charter x\n{ROW_LINE}\ncharter x")
        self.bad(5, "place", HEAD + "charter x\ncharter y")
        # Charters may be called as lots and trusts are.
        text = HEAD + f"trust t = a\ncharter t\n{ROW_LINE}\ncharter a\n{ROW_LINE}\nchange t to a"
        self.told(text, (LOTS, "plain", "own", ((ROW_A,), (ROW_A,)), ((1,), ())), ("t", "a"))

    def test_changes(self):
        head = HEAD + "".join(f"charter {word}\n{ROW_LINE}\n" for word in "xyz")
        rows = ((ROW_A,),) * 3
        for lines, changes in (
            ("change x to y", ((1,), (), ())), ("change x to z y", ((1, 2), (), ())), ("change z to x\nchange x to z", ((2,), (), (0,))),
            (" change  x  to  y  z \n\nchange y to  x", ((1, 2), (0,), ())), ("change y to z x\nchange z to x y\nchange x to y", ((1,), (0, 2), (0, 1))),
        ):
            self.told(head + lines, (LOTS, "plain", "own", rows, changes), ("x", "y", "z"))
        for line in (
            "change", "change x", "change x to", "change x y", "change to y", "change x to x", "change x to y y", "change x to y x",
            "change x to w", "change w to y", "change x to a", "change x, to y", "change x to y, z", "change x to y to z", "change x in y",
            "change x = y", "change x to of",
        ):
            self.bad(10, "line", head + line)
            self.bad(11, "line", head + "change y to z\n" + line)
        self.bad(11, "line", head + "change x to y\nchange x to z")
        self.bad(11, "line", head + "change x to y\nchange x to y")
        for line in ("row ask a", "charter w", "lot c 3", "trust t = a", ROW_LINE):
            self.bad(11, "place", head + "change x to y\n" + line)

    def test_the_first_line_that_is_not_so(self):
        self.bad(1, "place", "manner plain\nlot 5\nfoo")
        self.bad(0, "line", "manner\nfoo")
        self.bad(5, "line", HEAD + "charter x\nrow\nfoo")

    def test_back_from_a_text(self):
        dice = random.Random(44)
        for pact in some_pacts(25, 44):
            words = dice.sample(["a", "b", "x1", "t", "z", "abcdefgh"], len(pact[3]))
            self.told(pact_text(pact, tuple(words)), pact, tuple(words))

    def test_a_long_text(self):
        lines = [f"trust t{at} = one of (" + ", ".join(["2 in a"] * 12) + ")" for at in range(150)]
        lines += ["charter x"] + ["row ask t149; vote t0; look t1; hold t2"] * 3
        lines += ["charter y"] + ["row ask least (" + " | ".join(f"{n} a {9 - n} b" for n in range(1, 9)) + ");vote a;look a;hold a"] * 3
        text = "manner plain\nrule calm\nlot a 30\nlot b 30\n" + "\n".join(lines) + "\nchange y to x"
        pact, words = read_pact(text)
        self.equal((words, pact[4], len(pact[3][0])), (("x", "y"), ((), (0,)), 3))
        self.equal(pact[3][1][2][0], ("least", tuple((n, 9 - n) for n in range(1, 9))))

    def test_no_string(self):
        for thing in (None, 5, True, [OLD], (OLD,), DUO):
            self.refused(NotUsable("text"), read_pact, thing)
