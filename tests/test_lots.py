"""[3], [14]: lots, words, everyone, nobody."""

from assentwhole.errors import BadLots
from assentwhole.lots import check_lots, everyone, nobody
from tests.samples import HUGE, KEPT, LOTS, Checks


class LotsTests(Checks):
    def test_examples(self):
        self.equal((check_lots(LOTS), everyone(LOTS), nobody(LOTS)), (2, (3, 1), (0, 0)))
        self.refused(BadLots(1, "twice"), check_lots, (("a", 3), ("a", 0)))

    def test_great_lots(self):
        self.equal(everyone(HUGE), (10 ** 12, 1, 1000))
        self.equal(nobody(HUGE), (0, 0, 0))
        self.equal(check_lots((("a", 10 ** 60),)), 1)

    def test_many_lots(self):
        many = tuple((f"w{at}", at + 1) for at in range(2000))
        self.equal(check_lots(many), 2000)
        self.equal(check_lots(thing=many[:9]), 9)
        self.refused(BadLots(2000, "twice"), check_lots, many + (("w0", 1),))

    def test_shape_of_all(self):
        for thing in (None, (), [], [("a", 1)], "ab", 5, True, ""):
            self.refused(BadLots(-1, "shape"), check_lots, thing)
            self.refused(BadLots(-1, "shape"), everyone, thing)
            self.refused(BadLots(-1, "shape"), nobody, lots=thing)

    def test_shape_of_a_lot(self):
        for lot in (None, ["b", 1], ("b",), ("b", 1, 1), (), "b1", 7, ()):
            self.refused(BadLots(1, "shape"), check_lots, (("a", 1), lot, ("a", 0)))

    def test_words(self):
        for word in ("a", "z9", "abcdefgh", "a1234567", "ofs", "inn", "Of".lower() + "2", "nobodys", "zz"):
            self.equal(check_lots(((word, 1),)), 1)
        wrong = ("", "abcdefghi", "a12345678", "1a", "9", "A", "aB", "a_b", "a b", " a", "a-", "\xe9", "a\n", "\xb2")
        for word in wrong + KEPT + (None, 1, True, ("a",), ["a"], ("a", "b")):
            self.refused(BadLots(0, "word"), check_lots, ((word, 1), ("b", 1)))
        self.refused(BadLots(1, "word"), check_lots, (("a", 1), ("a\u0661", 1)))

    def test_kept_words_are_all_kept(self):
        for word in KEPT:
            self.refused(BadLots(1, "word"), check_lots, (("a", 1), (word, 1)))
            self.equal(check_lots((("x" + word, 1),)), 1) if len(word) < 8 else None

    def test_sizes(self):
        for size in (1, 2, 10 ** 12):
            self.equal(check_lots((("a", size),)), 1)
        for size in (0, -1, True, False, None, "1", (1,), [1]):
            self.refused(BadLots(1, "size"), check_lots, (("a", 1), ("b", size)))

    def test_sequence_of_faults(self):
        self.refused(BadLots(0, "word"), check_lots, (("of", 0), ("a",)))
        self.refused(BadLots(1, "twice"), check_lots, (("a", 1), ("a", 0), 5))
        self.refused(BadLots(0, "size"), check_lots, (("a", 0), ("a", 1)))
        self.refused(BadLots(1, "shape"), check_lots, (("a", 1), 5, ("of", 0)))
