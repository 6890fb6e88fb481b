"""[76], (G9): courses in which a look shows a roll that is not right."""

import random

from assentwhole.crowdjoins import crowd_within
from assentwhole.crowds import counts_of
from assentwhole.errors import BadCrowd, BadPact, NotFor
from assentwhole.lookcourses import head_course, look_course
from assentwhole.mislooking import misholders, mislookers
from assentwhole.plainplays import play_plain
from assentwhole.stairs import stair_holds
from tests.playing import A, B, GRAPHS, NONE, Courses, all_crowds, all_shapes, single_pact
from tests.samples import DUO, PACT, RULES, SWORN, random_pact, some_pacts, told_behind
from tests.slowtables import SlowTables

SOME = (((0, 1),), ())


class LookTests(Courses):
    def right(self, word, pact, fall, found, slowly=True):
        """What was found for fall is right; whether there is a course."""
        if found is None:
            return False
        liars, moves = found
        self.assertTrue(crowd_within(pact[0], liars, fall))
        run = self.played(pact, liars, moves, slowly)
        self.assertTrue(crowd_within(pact[0], run.fallen(), fall))
        last = run.looks()[-1]
        self.equal((last[0], last[2]), (word, False))
        self.assertIsNotNone(last[1])
        return True

    def looked(self, pact, fall, slowly=True):
        return self.right("desk", pact, fall, look_course(pact, fall), slowly)

    def held(self, pact, fall):
        found = head_course(pact, fall)
        if found is not None:
            self.equal(found[0], ((),) * len(pact[0]))
        return self.right("head", pact, fall, found)

    def test_examples(self):
        looks = play_plain(PACT, head_course(PACT, SOME)[1]).looks()
        self.equal((looks[len(looks) - 1][0], looks[len(looks) - 1][2], look_course(PACT, ((), ()))), ("head", False, None))

    def test_small_pacts_and_all_crowds(self):
        dice = random.Random(176)
        found = {}
        for pact in some_pacts(40, 176):
            tables = SlowTables(pact)
            looking, holding = tables.stair(tables.mislookers()), tables.stair(tables.misholders()) if pact[1] == "plain" else ()
            crowds = list(all_crowds(pact[0]))
            for fall in dice.sample(crowds, min(6, len(crowds))):
                counts = counts_of(pact[0], fall)
                self.equal(self.looked(pact, fall), stair_holds(pact[0], looking, counts))
                if pact[1:3] == ("plain", "own"):
                    key = self.held(pact, fall)
                    self.equal(key, stair_holds(pact[0], holding, counts))
                    found[key] = found.get(key, 0) + 1
        self.assertGreater(min(found.values()), 10)

    def test_each_common_of_look_and_vote_alone(self):
        # Nobody has to fall where look and vote of just one place share no house.
        for manner, rule, changes, kinds in all_shapes():
            come = told_behind(changes, 0)
            for d in range(len(changes)):
                for c in range(len(changes)):
                    for k, a in ((0, kinds - 1), (kinds - 1, 0)):
                        near = c == d or c in changes[d] or rule == "bold" and c in told_behind(changes, d)
                        pact = single_pact(manner, rule, changes, kinds, {("look", d, k): A, ("vote", c, a): B})
                        self.equal(self.looked(pact, NONE, d == 0), near and d in come)

    def test_each_misholder_alone(self):
        for changes in GRAPHS:
            come = told_behind(changes, 0)
            for c in range(len(changes)):
                for a, b in ((0, 1), (1, 0), (1, 1)):
                    odd = {("hold", c, a): A, ("ask", c, b): B, ("vote", c, b): B}
                    self.equal(self.held(single_pact("plain", "own", changes, 2, odd), NONE), c in come)
                    del odd["ask", c, b]
                    self.equal(self.held(single_pact("plain", "own", changes, 2, odd), NONE), False)

    def test_huge_lots_and_many_spans(self):
        size = 10 ** 12
        spans = tuple((n * 10 ** 10, n * 10 ** 10 + 7 * 10 ** 9) for n in range(60))
        shared = 60 * 7 * 10 ** 9
        for more in (0, 1):
            most = ("lot", 0, size // 2 + shared // 2 + more)
            for manner in ("plain", "sworn"):
                row = (most, None, most, most, most) if manner == "plain" else (most, most, most, most, None)
                pact = ((("a", size), ("b", 1)), manner, "own", ((row,), (row,)), ((1,), ()))
                self.equal(self.looked(pact, (spans, ())), more == 0)
                if manner == "plain":
                    self.equal(self.held(pact, (spans, ())), more == 0)

    def test_many_charters_and_kinds(self):
        dice = random.Random(177)
        for manner in ("plain", "sworn"):
            for rule in RULES:
                pact = random_pact(dice, (("a", 2), ("b", 2)), manner, rule, 6, 3, 3)
                for fall in list(all_crowds(pact[0]))[::5]:
                    counts = counts_of(pact[0], fall)
                    self.equal(self.looked(pact, fall), stair_holds(pact[0], mislookers(pact), counts))
                    if (manner, rule) == ("plain", "own"):
                        self.equal(self.held(pact, fall), stair_holds(pact[0], misholders(pact), counts))

    def test_wrong_ones(self):
        for call in (look_course, head_course):
            self.refused(BadPact(-1, "shape"), call, None, None)
            for crowd, at in ((None, -1), ([(), ()], -1), ((((0, 4),), ()), 0), (((), ((0, True),)), 1)):
                self.refused(BadCrowd(at), call, DUO, crowd)
        self.refused(BadCrowd(-1), head_course, SWORN, None)
        for rule in RULES:
            self.refused(NotFor("manner"), head_course, SWORN[:2] + (rule,) + SWORN[3:], ((),))
        for rule in ("calm", "bold"):
            self.refused(NotFor("rule"), head_course, PACT[:2] + (rule,) + PACT[3:], SOME)
            self.assertTrue(self.looked(PACT[:2] + (rule,) + PACT[3:], SOME))
