"""[73], [74], (G5): courses in which two settled rolls part, entry by entry, and how many reigns they need."""

import random

from assentwhole.crowdjoins import crowd_within
from assentwhole.crowds import counts_of
from assentwhole.entrylists import entries_of, entry_stair
from assentwhole.errors import BadCrowd, BadPact, NotFor
from assentwhole.plainplays import play_plain
from assentwhole.splitcourses import fewest_reigns, split_course
from assentwhole.splitting import splitters
from assentwhole.stairs import stair_holds
from tests.playing import (
    A, AB, B, EACH, GRAPHS, JUST_A, JUST_B, NONE, TWO_LOTS, Courses, all_crowds, all_shapes, single_entry_pact,
)
from tests.samples import DUO, PACT, SWORN, random_pact, some_pacts, told_behind

SOME = (((0, 1),), ())


def told_fewest(pact, counts):
    """How many reigns are enough, by the words of [73]."""
    fewest = None
    for entry in entries_of(pact):
        if stair_holds(pact[0], entry_stair(pact, entry), counts):
            _, c, _, d, _ = entry
            near = c == d or c in pact[4][d] or pact[2] == "bold" and c in told_behind(pact[4], d)
            fewest = 2 if near else fewest or 3
    return fewest


class SplitTests(Courses):
    def right(self, pact, fall, slowly=True):
        """The course is right, and so is the number of reigns; how many reigns it has."""
        found = split_course(pact, fall)
        counts = counts_of(pact[0], fall)
        self.equal(found is not None, stair_holds(pact[0], splitters(pact), counts))
        if pact[1] == "plain":
            self.equal(fewest_reigns(pact, fall), told_fewest(pact, counts))
        if found is None:
            return None
        liars, moves = found
        self.assertTrue(crowd_within(pact[0], liars, fall))
        run = self.played(pact, liars, moves, slowly)
        self.assertIsNotNone(run.parted())
        self.assertTrue(crowd_within(pact[0], run.fallen(), fall))
        if pact[1] == "sworn":
            return len({r for r, _ in run.laid()})
        self.equal(len(run.rolls()), fewest_reigns(pact, fall))
        return len(run.rolls())

    def test_examples(self):
        self.equal((fewest_reigns(PACT, SOME), fewest_reigns(PACT, ((), ()))), (2, None))
        odd = (((A, None, A, A, A),), ((B, None, AB, AB, AB),))
        cross = (TWO_LOTS, "plain", "own", odd, ((1,), ()))
        self.equal(fewest_reigns(cross, ((), ())), 3)
        liars, moves = split_course(PACT, SOME)
        run = play_plain(PACT, moves)
        self.equal((liars, len(run.rolls()), run.fallen(), run.parted() is None), (((), ()), 2, SOME, False))

    def test_each_entry_alone(self):
        # Nobody is needed to fall where the two trusts of just one entry share no house.
        seen = {}
        for manner, rule, changes, kinds in all_shapes():
            for entry in entries_of(single_entry_pact(manner, rule, changes, kinds, ("vote", 0, 0, 0, 0))):
                pact = single_entry_pact(manner, rule, changes, kinds, entry)
                reigns = self.right(pact, NONE)
                self.assertIsNotNone(reigns, (manner, rule, changes, entry))
                seen.setdefault((manner, rule, entry[0]), set()).add(reigns)
                for fall in (JUST_A, JUST_B, EACH):
                    self.right(pact, fall, False)
        for rule in ("own", "calm", "bold"):
            self.equal(seen["plain", rule, "vote"], {2, 3})
            self.equal(seen["sworn", rule, "vote"], {2, 3})
            self.equal(min(seen["sworn", rule, "echo"]) > 0, True)

    def test_one_house_in_both(self):
        # The trusts of one entry share one house of three lots: it has to fall.
        lots = (("a", 1), ("b", 1), ("c", 1))
        every = ("any", 3, tuple(("lot", at, 1) for at in range(3)))
        left, right = [("any", 2, (("lot", at, 1), ("lot", 2, 1))) for at in (0, 1)]
        only = ((), (), ((0, 1),))
        for rule in ("own", "calm", "bold"):
            for changes in GRAPHS:
                for charter in range(len(changes)):
                    for other in range(len(changes)):
                        rows = [[every, None, every, every, every] for _ in changes]
                        rows[charter][2] = left
                        rows[other][0] = right
                        pact = (lots, "plain", rule, tuple((tuple(row),) for row in rows), changes)
                        found = self.right(pact, only)
                        self.equal(found is None, told_fewest(pact, (0, 0, 1)) is None)
                        self.assertIsNone(self.right(pact, ((), (), ())))
                        self.assertIsNone(self.right(pact, (((0, 1),), ((0, 1),), ())))

    def test_small_pacts_and_all_crowds(self):
        dice = random.Random(74)
        found = {}
        for pact in some_pacts(16, 74):
            crowds = list(all_crowds(pact[0]))
            for fall in dice.sample(crowds, min(6, len(crowds))):
                reigns = self.right(pact, fall)
                found[reigns] = found.get(reigns, 0) + 1
        self.assertGreater(found[None], 30)
        self.assertGreater(found[2], 100)

    def test_many_charters_and_kinds(self):
        dice = random.Random(75)
        for manner in ("plain", "sworn"):
            for rule in ("own", "calm", "bold"):
                pact = random_pact(dice, (("a", 2), ("b", 2)), manner, rule, 6, 3, 3)
                for fall in list(all_crowds(pact[0]))[::5]:
                    self.right(pact, fall)

    def test_long_chains(self):
        # Six charters in a chain: the entry that parts is of its two ends, or of its last one.
        changes = ((1,), (2,), (3,), (4,), (5,), ())
        for manner in ("plain", "sworn"):
            for rule in ("own", "calm", "bold"):
                for entry in (("vote", 5, 2, 5, 1), ("vote", 4, 2, 5, 1), ("vote", 5, 1, 4, 2)):
                    self.assertIsNotNone(self.right(single_entry_pact(manner, rule, changes, 3, entry), NONE))
            for entry in (("vote", 0, 0, 5, 1), ("vote", 5, 2, 0, 1), ("vote", 2, 2, 5, 1)):
                self.assertIsNotNone(self.right(single_entry_pact(manner, "bold", changes, 3, entry), NONE))
        for rule in ("own", "calm", "bold"):
            for entry in (("echo", 5, 2, 5, 2), ("echo", 4, 0, 5, 0), ("echo", 5, 1, 4, 1)):
                self.assertIsNotNone(self.right(single_entry_pact("sworn", rule, changes, 3, entry), NONE))

    def test_stars_by_calm(self):
        # Siblings, of a charter that is not 0, and of one that is come to while 3 is not.
        for changes in (
            ((1,), (2, 3, 4), (), (), ()), ((1, 2), (), (), (1, 2)), ((), (), (1,), (1,)), ((1, 3), (2, 3), (), ()), ((1, 2), (2, 3), (), ()),
            ((1, 2), (), (3, 4), (), (), ()),
        ):
            for manner in ("plain", "sworn"):
                for entry in entries_of(single_entry_pact(manner, "calm", changes, 1, ("vote", 0, 0, 0, 0))):
                    self.assertIsNotNone(self.right(single_entry_pact(manner, "calm", changes, 1, entry), NONE))

    def test_huge_lots_and_many_spans(self):
        size = 10 ** 12
        lots = (("a", size), ("b", size), ("c", 1))
        spans = tuple((n * 10 ** 9, n * 10 ** 9 + 7 * 10 ** 8) for n in range(30))
        fall = (spans, tuple((first + 5, end + 5) for first, end in spans), ())
        shared = 30 * 7 * 10 ** 8
        for manner in ("plain", "sworn"):
            for more in (0, 1):
                half = size // 2 + shared // 2 + more
                most = ("any", 2, (("lot", 0, half), ("lot", 1, half)))
                row = (most, None, most, most, most) if manner == "plain" else (most, most, most, most, None)
                pact = (lots, manner, "calm", ((row,), (row,)), ((1,), (0,)))
                self.equal(self.right(pact, fall), None if more else 2)
        # By three reigns, from a third charter.
        most, every = ("lot", 0, half - 1), ("lot", 0, size)
        rows = ((every, None, every, every, every), (every, None, most, every, every), (most, None, every, every, every))
        pact = (lots[:1], "plain", "calm", tuple((row,) for row in rows), ((1, 2), (), ()))
        self.equal(self.right(pact, fall[:1]), 3)

    def test_wrong_ones(self):
        for call in (fewest_reigns, split_course):
            self.refused(BadPact(-1, "shape"), call, None, None)
            self.refused(BadPact(-1, "rule"), call, DUO[:2] + ("Own",) + DUO[3:], 5)
            for fall, at in ((None, -1), ([(), ()], -1), (((),), -1), ((((0, 4),), ()), 0), (((), [(0, 1)]), 1), ((((False, 1),), ()), 0)):
                self.refused(BadCrowd(at), call, PACT, fall)
        self.refused(NotFor("manner"), fewest_reigns, SWORN, ((),))
        self.refused(BadCrowd(-1), fewest_reigns, SWORN, None)
        self.equal(split_course(SWORN, ((),)), None)
        self.equal(split_course(PACT, ((), ((0, 1),))), None)
