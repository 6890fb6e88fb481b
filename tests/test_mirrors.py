"""[5], [23], [27]: mirrors, and the trust beyond counts."""

from assentwhole.errors import BadCounts, BadTrust
from assentwhole.grids import grid_of
from assentwhole.holding import holds
from assentwhole.mirrors import beyond, mirror_of
from assentwhole.trustchecks import check_trust
from tests.samples import (
    BOTH, HUGE, LOTS, SMALL_LOTS, TWO, Checks, Houses, all_counts, some_trusts, told_holds, under,
)


class MirrorTests(Checks):
    def test_examples(self):
        self.equal(mirror_of(LOTS, BOTH), ("any", 1, (("lot", 0, 2), ("lot", 1, 1))))
        self.equal(beyond(LOTS, (1, 1)), ("any", 1, (("lot", 0, 2), ("lot", 1, 2))))

    def test_how_it_is_written(self):
        stair = ((0, 1), (2, 0))
        for trust, mirror in (
            (("lot", 0, 0), ("lot", 0, 4)),
            (("lot", 0, 4), ("lot", 0, 0)),
            (("lot", 0, 1), ("lot", 0, 3)),
            (("any", 0, ()), ("any", 1, ())),
            (("any", 1, (TWO, ("least", stair))), ("any", 2, (TWO, ("spare", stair)))),
            (("heavy", 0, (), ()), ("heavy", 1, (), ())),
            (("heavy", 4, (3, 2), (("lot", 0, 1), ("spare", ()))), ("heavy", 2, (3, 2), (("lot", 0, 3), ("least", ())))),
        ):
            self.equal(mirror_of(lots=LOTS, trust=trust), mirror)
            self.equal(mirror_of(LOTS, mirror), trust)
        self.equal(mirror_of(HUGE, ("lot", 0, 1)), ("lot", 0, 10 ** 12))

    def test_crowds_of_the_mirror(self):
        for lots in SMALL_LOTS:
            houses = Houses(lots)
            for trust in some_trusts(lots, 40, seed=4):
                mirror = mirror_of(lots, trust)
                for crowd in houses.crowds:
                    others = houses.counts[houses.others(crowd)]
                    self.equal(holds(lots, mirror, houses.counts[crowd]), not told_holds(lots, trust, others))

    def test_consequences(self):
        for trust in some_trusts(LOTS, 200, seed=5):
            mirror = mirror_of(LOTS, trust)
            self.equal(mirror_of(LOTS, mirror), trust)
            self.equal(check_trust(LOTS, mirror), check_trust(LOTS, trust))
            self.equal(grid_of(LOTS, mirror), grid_of(LOTS, trust))

    def test_beyond(self):
        for lots in SMALL_LOTS:
            for counts in all_counts(lots):
                trust = beyond(lots, counts)
                self.equal(trust, ("any", 1, tuple(("lot", at, n + 1) for at, n in enumerate(counts))))
                for other in all_counts(lots):
                    self.equal(holds(lots, trust, other), not under(other, counts))

    def test_wrong_ones(self):
        self.refused(BadTrust(0, "bound"), mirror_of, LOTS, ("heavy", 5, (1,), (TWO,)))
        self.refused(BadTrust(0, "shape"), mirror_of, LOTS, None)
        self.refused(BadTrust(1, "many"), mirror_of, LOTS, ("any", 1, (("lot", 0, True),)))
        self.refused(BadCounts(0), beyond, LOTS, (4, 0))
        self.refused(BadCounts(-1), beyond, LOTS, [1, 0])
        self.refused(BadCounts(1), beyond, counts=(0, True), lots=LOTS)
