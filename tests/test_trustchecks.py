"""[4], [21]: what trusts are."""

from assentwhole.errors import BadTrust
from assentwhole.trustchecks import check_trust
from tests.samples import BOTH, HUGE, LOTS, TWO, Checks, some_trusts

ONE = ("lot", 1, 1)


def depth_of(levels):
    trust = TWO
    for _ in range(levels - 1):
        trust = ("any", 1, (trust,))
    return trust


class TrustCheckTests(Checks):
    def wrong(self, at, word, thing, lots=LOTS):
        self.refused(BadTrust(at, word), check_trust, lots, thing)

    def test_examples(self):
        self.equal(check_trust(LOTS, BOTH), 3)
        self.wrong(2, "many", ("any", 3, (TWO, ("lot", 1, 3))))

    def test_how_many(self):
        self.equal(check_trust(LOTS, ("any", 0, ())), 1)
        self.equal(check_trust(LOTS, ("any", 1, (BOTH, ("heavy", 1, (1,), (BOTH,)), TWO))), 9)
        self.equal(check_trust(lots=LOTS, thing=("heavy", 0, (), ())), 1)
        self.equal(check_trust(LOTS, ("any", 1, (TWO,) * 12)), 13)
        self.equal(check_trust(LOTS, depth_of(6)), 6)
        self.equal(check_trust(LOTS, depth_of(28)), 28)
        self.equal(check_trust(LOTS, ("any", 7, (TWO,) * 1600)), 1601)

    def test_shape(self):
        wrong = (
            None, 5, True, "lot", "", (), [], ["lot", 0, 1], ("lot",), ("lot", 0), ("lot", 0, 1, 1), ("lots", 0, 1),
            (0, 0, 1), (("lot",), 0, 1), (["lot"], 0, 1), (None, 0, 1), ("any", 1), ("any", 1, (), ()), ("any", 1, [TWO]),
            ("any", 1, "ab"), ("any", 1, None), ("heavy", 1, (1,)), ("heavy", 1, (1,), (TWO,), ()),
            ("heavy", 1, [1], (TWO,)), ("heavy", 1, (1,), [TWO]), ("heavy", 1, 1, (TWO,)), ("heavy", 1, None, None),
            ("least",), ("least", (), ()), ("spare",), ("spare", (), 1), ("nobody",), ("mirror", TWO),
        )
        for thing in wrong:
            self.wrong(0, "shape", thing)
            self.wrong(2, "shape", ("any", 1, (TWO, thing, ("lot", 9, 9))))

    def test_lot(self):
        for lot in (-1, 2, True, False, None, "a", (0,), 10 ** 60):
            self.wrong(0, "lot", ("lot", lot, 99))

    def test_many_of_a_lot(self):
        for many in (0, 1, 3, 4):
            self.equal(check_trust(LOTS, ("lot", 0, many)), 1)
        for many in (-1, 5, True, None, "1", (1,)):
            self.wrong(0, "many", ("lot", 0, many))
        self.equal(check_trust(HUGE, ("lot", 0, 10 ** 12 + 1)), 1)
        self.wrong(0, "many", ("lot", 0, 10 ** 12 + 2), HUGE)

    def test_many_of_parts(self):
        for many in (0, 1, 2, 3):
            self.equal(check_trust(LOTS, ("any", many, (TWO, ONE))), 3)
        for many in (-1, 4, True, None, "1"):
            self.wrong(0, "many", ("any", many, (TWO, 5)))
        self.equal(check_trust(LOTS, ("any", 1, ())), 1)
        self.wrong(0, "many", ("any", 2, ()))

    def test_weights(self):
        for weights in ((), (1,), (1, 1, 1), (1, -1), (True, 1), (1, None), ("1", 1), (1, (1,)), ([1], 1)):
            self.wrong(0, "weights", ("heavy", 99, weights, (TWO, ONE)))

    def test_bound(self):
        for bound in (0, 1, 5, 6):
            self.equal(check_trust(LOTS, ("heavy", bound, (2, 3), (TWO, ONE))), 3)
        for bound in (-1, 7, True, None, "1", (1,)):
            self.wrong(0, "bound", ("heavy", bound, (2, 3), (TWO, 5)))
        self.equal(check_trust(LOTS, ("heavy", 1, (), ())), 1)
        self.wrong(0, "bound", ("heavy", 2, (), ()))
        self.equal(check_trust(LOTS, ("heavy", 2 * 10 ** 6 + 1, (10 ** 6, 10 ** 6), (TWO, TWO))), 3)

    def test_stair(self):
        for kind in ("least", "spare"):
            for stair in ((), ((0, 0),), ((3, 1),), ((0, 1), (1, 0)), ((0, 1), (3, 0))):
                self.equal(check_trust(LOTS, (kind, stair)), 1)
            for stair in (
                None, [], [(0, 1)], 5, "", ((0,),), ([0, 1],), ((0, 2),), ((4, 0),), ((True, 0),), ((1, 0), (0, 1)),
                ((0, 1), (0, 1)), ((0, 0), (1, 0)), ((0, 1), (1, 1)), ((1, 0), (1, 1)), (None,),
            ):
                self.wrong(0, "stair", (kind, stair))

    def test_first_trust_in_the_sequence_of_writing(self):
        bad = ("lot", 0, 9)
        deep = ("any", 1, (("any", 1, (TWO, ("heavy", 1, (1,), (BOTH,)))), bad))
        self.equal(check_trust(LOTS, deep[:2] + (deep[2][:1],)), 7)
        self.wrong(7, "many", deep)
        self.wrong(1, "many", ("any", 1, (("any", 5, (5, 5)), 5)))
        self.wrong(3, "lot", ("heavy", 1, (1, 1), (("any", 1, (TWO, ("lot", 7, 7))), 5)))
        self.wrong(0, "weights", ("heavy", 1, (1,), (5, 5)))

    def test_some_trusts(self):
        def count(trust):
            return 1 + sum(count(part) for part in (trust[-1] if trust[0] in ("any", "heavy") else ()))

        for trust in some_trusts(LOTS, 200):
            self.equal(check_trust(LOTS, trust), count(trust))
