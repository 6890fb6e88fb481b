"""[75], (G6): courses from which a crowd that is no waker settles nothing more."""

import random

from assentwhole.crowds import counts_of
from assentwhole.errors import BadCrowd, BadPact, NotUsable
from assentwhole.plainruns import Plain
from assentwhole.stairs import stair_holds
from assentwhole.stretches import stretch
from assentwhole.stuckcourses import stuck_course
from tests.playing import EACH, GRAPHS, JUST_A, Courses, all_crowds, single_pact
from tests.samples import DUO, PACT, RULES, SWORN, some_pacts
from tests.slowruns import Moves, SlowPlain, SlowSworn, charter, houses_of
from tests.slowtables import SlowTables
from tests.test_plainruns import RIGHT

SOME = (((0, 1),), ())


def desks_of(run, crowd):
    """The desks of all houses of a crowd."""
    return [row[2:] for lot, n in houses_of(crowd) for row in run.desks()[lot] if row[0] <= n < row[1]]


def used_in(run):
    return [row[0] for row in (run.rolls() if isinstance(run, Plain) else run.laid())]


class StuckTests(Courses):
    def stuck(self, pact, crowd, tables):
        """The course is right; the run behind it, or None."""
        moves = stuck_course(pact, crowd)
        counts = counts_of(pact[0], crowd)
        self.equal(moves is None, stair_holds(pact[0], tables.stair(tables.wakers()), counts))
        if moves is None:
            return None
        run = self.played(pact, ((),) * len(pact[0]), moves)
        self.assertNotIn("return", [move[0] for move in moves])
        desks = desks_of(run, crowd)
        self.equal(len({desk[1:3] for desk in desks}), 1)
        for kind in tables.kinds:
            enough = tables.enough(charter(desks[0][2]), kind)
            self.assertFalse(stair_holds(pact[0], tables.stair(enough), counts))
        self.assertGreater(min(desk[0] for desk in desks), max(used_in(run), default=0))
        return run

    def settles_nothing(self, dice, run, crowd):
        """A stretch of crowd settles nothing by moves at random, without changes unless the rule is own."""
        pact = run.pact()
        rest = stretch(run, crowd)
        slow = SlowPlain(pact) if isinstance(run, Plain) else SlowSworn(pact)
        for lot, rows in enumerate(run.desks()):
            for row in rows:
                for n in range(row[0], row[1]):
                    slow.desk[lot, n] = row[2:]
        slow = slow.stretch(crowd)
        slow.gone |= set(used_in(run))
        make = Moves(dice, pact, max(used_in(run), default=0) + 5)
        for _ in range(80):
            move = make.plain(slow) if isinstance(run, Plain) else make.sworn(slow)
            deeds = move[2:3] if move[0] == "write" else move[3] if move[0] in ("echo", "lock") else ()
            if pact[2] != "own" and any(deed[0] == "change" for deed in deeds):
                continue
            if slow.do(move) is None:
                rest.do(move)
        self.equal(rest.settled(), ())

    def test_examples(self):
        self.equal((stuck_course(PACT, RIGHT), stuck_course(PACT, SOME) is None), (None, False))

    def test_small_pacts_and_all_crowds(self):
        dice = random.Random(175)
        stuck = awake = 0
        for pact in some_pacts(10, 175):
            tables = SlowTables(pact)
            crowds = [crowd for crowd in all_crowds(pact[0]) if any(crowd)]
            for crowd in dice.sample(crowds, min(5, len(crowds))):
                run = self.stuck(pact, crowd, tables)
                stuck += run is not None
                awake += run is None
                if run is not None:
                    self.settles_nothing(dice, run, crowd)
        self.assertGreater(min(stuck, awake), 50)

    def test_stuck_at_one_charter_alone(self):
        # One house is enough at all charters but one.
        some = ("any", 1, (("lot", 0, 1), ("lot", 1, 1)))
        for manner in ("plain", "sworn"):
            for rule in RULES:
                for changes in GRAPHS:
                    for late in range(len(changes)):
                        odd = {
                            (step, c, 0): some for c in range(len(changes)) for step in ("ask", "echo", "vote")
                            if c != late or step != ("vote", "ask", "echo")[len(changes) % 3 if manner == "sworn" else 0]
                        }
                        pact = single_pact(manner, rule, changes, 1, odd)
                        tables = SlowTables(pact)
                        run = self.stuck(pact, JUST_A, tables)
                        self.equal(run is not None, late in tables.come)
                        if run is not None:
                            self.equal(charter(desks_of(run, JUST_A)[0][2]), late)
                        self.assertIsNone(self.stuck(pact, EACH, tables))

    def test_of_several_kinds(self):
        # For charter 1 ask is met by one kind alone, and vote by the other.
        some = ("lot", 0, 1)
        odd = {("ask", 0, 1): some, ("vote", 0, 1): some, ("ask", 1, 0): some, ("vote", 1, 1): some}
        for rule in RULES:
            pact = single_pact("plain", rule, ((1,), ()), 2, odd)
            run = self.stuck(pact, JUST_A, SlowTables(pact))
            self.equal(charter(desks_of(run, JUST_A)[0][2]), 1)

    def test_huge_lots(self):
        size = 10 ** 12
        most = ("lot", 0, size // 2 + 1)
        pact = ((("a", size),), "plain", "own", (((most, None, most, most, most),),), ((),))
        spans = tuple((n * 5 * 10 ** 9, n * 5 * 10 ** 9 + 3 * 10 ** 9) for n in range(200))
        self.assertIsNone(stuck_course(pact, (spans,)))
        self.assertIsNotNone(self.played(pact, ((),), stuck_course(pact, (spans[:160],))))

    def test_wrong_ones(self):
        self.refused(BadPact(-1, "shape"), stuck_course, None, None)
        for crowd, at in ((None, -1), ([(), ()], -1), ((((0, 4),), ()), 0), (((), ((0, True),)), 1)):
            self.refused(BadCrowd(at), stuck_course, DUO, crowd)
        self.refused(NotUsable("crowd"), stuck_course, DUO, ((), ()))
        self.refused(NotUsable("crowd"), stuck_course, SWORN, ((),))
