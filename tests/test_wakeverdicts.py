"""[79], [80]: verdicts on what a crowd goes on from."""

import random

from assentwhole.crowds import counts_of
from assentwhole.errors import BadCrowd, BadPact, NotUsable
from assentwhole.stairs import stair_holds
from assentwhole.stuckcourses import stuck_course
from assentwhole.waking import wakers
from assentwhole.wakeverdicts import is_wake_verdict, wake_verdict
from tests.playing import EACH, JUST_A, Courses, all_crowds, single_pact
from tests.samples import DUO, LOTS, ONLY, ROW, SWORN, some_pacts
from tests.slowtables import SlowTables
from tests.test_plainruns import ALL, DEED, LEFT
from tests.test_swornruns import part

TEAM = (((1, 3),), ((0, 1),))


class WakeVerdictTests(Courses):
    def test_examples(self):
        found = (wake_verdict(DUO, TEAM), wake_verdict(DUO, LEFT)[:2], is_wake_verdict(DUO, LEFT, ("wakes", (0, 0))))
        self.equal(found, (("wakes", (0, 0)), ("stuck", 1), False))

    def test_small_pacts_and_all_crowds(self):
        dice = random.Random(179)
        words = {"wakes": 0, "stuck": 0}
        for pact in some_pacts(12, 179):
            tables = SlowTables(pact)
            crowds = [crowd for crowd in all_crowds(pact[0]) if any(crowd)]
            for crowd in dice.sample(crowds, min(5, len(crowds))):
                counts = counts_of(pact[0], crowd)
                found = wake_verdict(pact, crowd)
                words[found[0]] += 1
                self.equal(is_wake_verdict(pact, crowd, found), True)
                self.equal(found[0], "wakes" if stair_holds(pact[0], wakers(pact), counts) else "stuck")
                if found[0] == "wakes":
                    self.equal(found, ("wakes", self.least_kinds(pact, tables, counts)))
                else:
                    self.played(pact, ((),) * len(pact[0]), found[2])
                for other in crowds:
                    same_end = is_wake_verdict(pact, other, found)
                    if same_end:
                        self.equal(wake_verdict(pact, other)[0], found[0])
        self.assertGreater(min(words.values()), 50)

    def least_kinds(self, pact, tables, counts):
        """For each charter the least kind for which the crowd is in enough."""
        return tuple(
            min(b for b in tables.kinds if stair_holds(pact[0], tables.stair(tables.enough(d, b)), counts)) for d in tables.come
        )

    def test_kinds(self):
        # Of two kinds any will do for which the crowd is enough, charter by charter.
        some = ("lot", 0, 1)
        odd = {(step, c, k): some for step in ("ask", "vote") for c, k in ((0, 0), (0, 1), (1, 1))}
        pact = single_pact("plain", "own", ((1,), (), (0,)), 2, odd)
        self.equal(wake_verdict(pact, JUST_A), ("wakes", (0, 1)))
        for kinds, wanted in (((0, 1), True), ((1, 1), True), ((1, 0), False), ((0, 0), False)):
            self.equal(is_wake_verdict(pact, JUST_A, ("wakes", kinds)), wanted)
            self.equal(is_wake_verdict(pact, EACH, ("wakes", kinds)), True)
        for kinds in ((0,), (0, 1, 1), [0, 1], (0, 2), (False, True), (0, -1), None, (), (0, None), "01", (0, (1,))):
            self.equal(is_wake_verdict(pact, EACH, ("wakes", kinds)), False)

    def test_each_condition_of_a_course(self):
        word, charter, moves = wake_verdict(DUO, LEFT)
        self.equal((word, charter), ("stuck", 1))
        self.equal(is_wake_verdict(DUO, LEFT, (word, charter, moves)), True)
        answer = ("answer", 9, ALL)
        for thing in (
            ("stuck", 0, moves), ("stuck", True, moves), ("stuck", None, moves), ("stuck", 1, list(moves)), ("stuck", 1, moves[:-1]),
            ("stuck", 1, moves + (("return", ((), ((0, 1),)), 0),)), ("stuck", 1, moves + (("open", 7),)), ("stuck", 1, ()),
            ("stuck", 1, moves + (answer, ("take", 9, ALL, None))), ("stuck", 1, None), ("stuck", 1), ("stuck", moves, 1),
            ["stuck", 1, moves], ("wakes", 1, moves), ("stuck", 1, moves, ()), ("stuck", (1,), moves), ("stuck", "1", moves),
        ):
            self.equal(is_wake_verdict(DUO, LEFT, thing), False)
        # More promises, and a roll with more deeds.
        self.equal(is_wake_verdict(DUO, LEFT, ("stuck", 1, moves + (answer,))), True)
        self.equal(is_wake_verdict(DUO, LEFT, ("stuck", 1, moves + (("open", 0), ("tell", 0, ALL)))), True)
        some = (((0, 1),), ())
        self.equal(is_wake_verdict(DUO, some, ("stuck", 1, moves)), True)
        self.equal(is_wake_verdict(DUO, TEAM, ("stuck", 1, moves)), False)

    def test_one_reign_and_one_roll(self):
        # Two houses of a, each enough for nothing; they have to have one desk but for their promises.
        one, two = (((0, 1),), ()), (((1, 2),), ())
        pact = (LOTS, "plain", "own", ((ROW,), ((ONLY, None, ONLY, ONLY, ONLY),)), ((1,), ()))
        both = (((0, 2),), ())
        start = (("answer", 1, ALL), ("take", 1, ALL, None), ("store", 1, 0, ALL), ("write", 1, ("change", 1)))
        cases = (
            ((("store", 1, 1, both), ("answer", 2, both)), True), ((("store", 1, 1, one), ("answer", 2, both)), False),
            ((("store", 1, 1, both), ("answer", 2, one), ("answer", 5, two)), True), ((("store", 1, 1, both), ("answer", 2, one)), False),
            ((("store", 1, 1, both), ("answer", 2, ALL), ("take", 2, ALL, None), ("answer", 3, both)), True),
            ((("store", 1, 1, both), ("answer", 2, ALL), ("take", 2, ALL, None), ("store", 2, 1, one), ("answer", 3, both)), False),
        )
        for moves, wanted in cases:
            self.equal(is_wake_verdict(pact, both, ("stuck", 1, start + moves)), wanted)
        # Reign 0 and no roll, where nothing has a roll.
        self.equal(is_wake_verdict(pact, one, ("stuck", 0, ())), True)
        self.equal(is_wake_verdict(pact, both, ("stuck", 0, ())), False)
        self.equal(is_wake_verdict(pact, one, ("stuck", False, ())), False)
        self.equal(is_wake_verdict(pact, one, ("stuck", 0, (("answer", 1, ALL), ("take", 1, ALL, None)))), False)
        self.equal(is_wake_verdict(pact, one, ("stuck", 0, (("answer", 1, ALL), ("take", 1, ALL, None), ("answer", 2, one)))), True)

    def test_sworn(self):
        pact, near = SWORN, part(0, 2)
        moves = stuck_course(pact, near)
        self.equal(is_wake_verdict(pact, near, ("stuck", 0, moves)), True)
        self.equal(is_wake_verdict(pact, part(0, 3), ("stuck", 0, moves)), False)
        self.equal(is_wake_verdict(pact, part(0, 3), ("wakes", (0,))), True)
        self.equal(is_wake_verdict(pact, near, ("wakes", (0,))), False)
        # A base that is laid for a reign that was not left behind.
        every = part(0, 4)
        laid = (("answer", 1, every), ("lay", 1, every, None, ()))
        self.equal(is_wake_verdict(pact, near, ("stuck", 0, laid)), False)
        self.equal(is_wake_verdict(pact, near, ("stuck", 0, laid + (("answer", 2, near),))), True)
        self.equal(is_wake_verdict(pact, near, ("stuck", 0, laid + (("return", part(3, 4), 0), ("answer", 2, near)))), False)
        told = laid + (("echo", 1, (), (DEED,), every), ("lock", 1, (), (DEED,), part(0, 1)), ("answer", 2, every))
        self.equal(is_wake_verdict(pact, near, ("stuck", 0, told)), False)
        self.equal(is_wake_verdict(pact, part(0, 1), ("stuck", 0, told)), True)

    def test_values_of_any_kind(self):
        deep = ()
        for _ in range(29):
            deep = (deep,)
        wide = tuple(range(4990))
        for thing in (
            None, 5, True, "wakes", deep, wide, [deep], ("wakes", deep), ("wakes", wide), ("stuck", deep, wide), ("stuck", 0, deep), (),
            ("stuck", 0, wide), ("stuck", 0, ((("answer",),),)), ("stuck", 0, (deep, ("answer", 1, deep))), (("wakes",), (0, 0)), ("wakes",),
        ):
            self.equal(is_wake_verdict(DUO, LEFT, thing), False)
            self.equal(is_wake_verdict(DUO, TEAM, thing), False)

    def test_wrong_ones(self):
        for call, more in ((wake_verdict, ()), (is_wake_verdict, (None,))):
            self.refused(BadPact(-1, "shape"), call, None, None, *more)
            for crowd, at in ((None, -1), ([(), ()], -1), ((((0, 4),), ()), 0), (((), ((0, True),)), 1)):
                self.refused(BadCrowd(at), call, DUO, crowd, *more)
            self.refused(NotUsable("crowd"), call, DUO, ((), ()), *more)
