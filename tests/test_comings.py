"""[46]: which charters are come to, and which are behind a charter."""

from assentwhole.comings import behind, come_to
from assentwhole.errors import BadPact, NotUsable
from tests.samples import DUO, LOTS, PACT, ROW, Checks, some_pacts, told_behind


def pact_with(*changes):
    return (LOTS, "plain", "own", ((ROW,),) * len(changes), changes)


CHAIN = pact_with((1,), (2,), (3,), (4,), (5,), ())
RING = pact_with((1,), (2,), (3,), (0,))
STAR = pact_with((1, 2, 3), (0,), (), ())
INWARD = pact_with((), (0,), (0, 1))


class ComingTests(Checks):
    def test_examples(self):
        self.equal((come_to(DUO), behind(DUO, 1)), ((0, 1), (1,)))

    def test_chains_rings_and_stars(self):
        self.equal(come_to(PACT), (0,))
        for charter in range(6):
            self.equal(behind(CHAIN, charter), tuple(range(charter, 6)))
        for charter in range(4):
            self.equal(behind(RING, charter), (0, 1, 2, 3))
        self.equal([behind(STAR, charter) for charter in range(4)], [(0, 1, 2, 3), (0, 1, 2, 3), (2,), (3,)])

    def test_charters_that_are_not_come_to(self):
        self.equal(come_to(INWARD), (0,))
        self.equal([behind(INWARD, charter) for charter in range(3)], [(0,), (0, 1), (0, 1, 2)])

    def test_many(self):
        for pact in some_pacts(30, 46, LOTS):
            self.equal(come_to(pact), behind(pact, 0))
            for charter in range(len(pact[3])):
                self.equal(behind(pact, charter), told_behind(pact[4], charter))

    def test_wrong_ones(self):
        for thing in (2, -1, True, None, "0", (0,)):
            self.refused(NotUsable("charter"), behind, DUO, thing)
        self.refused(BadPact(1, "changes"), behind, pact_with((1,), (1,)), None)
        self.refused(BadPact(-1, "changes"), come_to, (LOTS, "plain", "own", ((ROW,),), ()))
