"""[43]: kinds, rows and stairs of steps."""

from assentwhole.errors import BadPact, NotUsable
from assentwhole.pactparts import kind_of, row_of, step_stair
from assentwhole.stairs import stair_of
from tests.samples import DUO, LOTS, MORE, PACT, ROW, SWORN, Checks, some_pacts

STEPS = ("ask", "echo", "vote", "look", "hold")
THREE_KINDS = (LOTS, "plain", "own", ((ROW, MORE, ROW), (MORE, ROW, MORE)), ((), ()))


class PactPartTests(Checks):
    def test_examples(self):
        self.equal((kind_of(PACT, 7), step_stair(DUO, 1, 0, "vote")), (0, ((2, 1),)))
        self.refused(NotUsable("step"), step_stair, DUO, 1, 0, "echo")

    def test_kinds(self):
        self.equal([kind_of(THREE_KINDS, reign) for reign in range(1, 8)], [1, 2, 0, 1, 2, 0, 1])
        self.equal(kind_of(THREE_KINDS, 10 ** 6), 1)
        self.equal(kind_of(DUO, 5), 0)
        for thing in (0, -1, True, None, "1", (1,), [1]):
            self.refused(NotUsable("reign"), kind_of, PACT, thing)

    def test_rows(self):
        for charter in range(2):
            for kind in range(3):
                self.equal(row_of(THREE_KINDS, charter, kind), THREE_KINDS[3][charter][kind])
        for thing in (2, -1, True, None, "0", (0,)):
            self.refused(NotUsable("charter"), row_of, THREE_KINDS, thing, 0)
            self.refused(NotUsable("charter"), step_stair, THREE_KINDS, thing, None, None)
        for thing in (3, -1, False, None, "0", [0]):
            self.refused(NotUsable("kind"), row_of, THREE_KINDS, 1, thing)
            self.refused(NotUsable("kind"), step_stair, THREE_KINDS, 1, thing, None)

    def test_stairs_of_steps(self):
        for pact in some_pacts(6, 43):
            for charter, rows in enumerate(pact[3]):
                for kind, row in enumerate(rows):
                    for step, trust in zip(STEPS, row):
                        if trust is None:
                            self.refused(NotUsable("step"), step_stair, pact, charter, kind, step)
                        else:
                            self.equal(step_stair(pact, charter, kind, step), stair_of(pact[0], trust))

    def test_wrong_steps(self):
        for thing in (None, "", "Ask", "asks", 0, True, ("ask",), ["ask"], "row"):
            self.refused(NotUsable("step"), step_stair, PACT, 0, 0, thing)
        self.refused(NotUsable("step"), step_stair, SWORN, 0, 0, "hold")
        self.refused(BadPact(-1, "shape"), step_stair, list(PACT), None, None, None)
