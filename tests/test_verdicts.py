"""[77], [78], [80]: verdicts on who can make two rolls out of one."""

import random

from assentwhole.crowdjoins import crowd_either
from assentwhole.crowds import counts_of
from assentwhole.entrylists import entries_of
from assentwhole.errors import BadCrowd, BadPact
from assentwhole.mirrors import beyond
from assentwhole.paperchecks import is_paper
from assentwhole.placing import first_houses
from assentwhole.splitcourses import split_course
from assentwhole.splitting import splitters
from assentwhole.stairs import stair_holds
from assentwhole.verdicts import is_verdict, verdict
from tests.playing import Courses, all_crowds
from tests.samples import DUO, HUGE, PACT, RULES, SWORN, some_pacts, under
from tests.test_entrylists import trusts_of
from tests.test_plainruns import DEED
from tests.test_swornruns import part

SOME, NOBODY = (((0, 1),), ()), ((), ())
TREE = (("first", 0, 2), ("first",), ("second", 0, 2), ("second",), ("wish",))
OTHER = ("do", 9, 1, 0, 0)


class VerdictTests(Courses):
    def test_examples(self):
        liars, moves = split_course(PACT, SOME)
        self.equal((is_verdict(PACT, SOME, verdict(PACT, SOME)), is_verdict(PACT, NOBODY, ("splits", liars, moves))), (True, False))
        self.equal((is_verdict(PACT, NOBODY, ("one", (TREE,))), is_verdict(PACT, SOME, ("one", (TREE,)))), (True, False))
        self.equal((verdict(SWORN, (((0, 2),),))[0], verdict(SWORN, (((0, 1),),))[0]), ("splits", "one"))

    def test_small_pacts_and_all_crowds(self):
        dice = random.Random(177)
        words = {"splits": 0, "one": 0}
        for pact in some_pacts(16, 177):
            crowds = list(all_crowds(pact[0]))
            told = [(fall, counts_of(pact[0], fall), verdict(pact, fall)) for fall in dice.sample(crowds, min(4, len(crowds)))]
            for fall, counts, found in told:
                self.equal(found[0], "splits" if stair_holds(pact[0], splitters(pact), counts) else "one")
                words[found[0]] += 1
                if found[0] == "splits":
                    self.equal(len(found), 3)
                    self.played(pact, found[1], found[2])
                else:
                    self.check_trees(pact, counts, found[1])
                for other, there, _ in told:
                    more = crowd_either(pact[0], fall, other)
                    within = more == other if found[0] == "splits" else under(there, counts)
                    if within:
                        self.equal(is_verdict(pact, other, found), True)
                    if found[0] == "splits":
                        self.equal(is_verdict(pact, more, found), True)
                    elif verdict(pact, other)[0] == "splits":
                        self.equal(is_verdict(pact, other, found), False)
                self.equal(is_verdict(pact, fall, found), True)
        self.assertGreater(min(words.values()), 20)

    def check_trees(self, pact, counts, trees):
        """Each tree is one by [39], entry by entry."""
        entries = entries_of(pact)
        self.equal(len(trees), len(entries))
        for entry, tree in zip(entries, trees):
            first, second = trusts_of(pact, entry)
            self.equal(is_paper(pact[0], first, second, beyond(pact[0], counts), ("closed", tree)), True)

    def test_each_condition_of_a_course(self):
        liars, moves = split_course(PACT, SOME)
        good = ("splits", liars, moves)
        self.equal(is_verdict(PACT, SOME, good), True)
        wrong = (
            ("splits", liars, moves[:-1]), ("splits", liars, list(moves)), ("splits", liars, moves + (("open", 5),)),
            ("splits", liars, moves + (("return", (((2, 3),), ()), 0),)), ("splits", SOME, moves), ("splits", None, moves),
            ("splits", [(), ()], moves), ("splits", ((),), moves), ("splits", liars, moves + (moves[-1],)), ("splits", liars, ()),
            ("splits", liars, None), ("splits", liars), ("splits", liars, moves, ()), ["splits", liars, moves],
            ("Splits", liars, moves), ("split", liars, moves), ("one", liars, moves), (True, liars, moves), ("splits", moves, liars),
            ("splits", (((),), ()), moves), ("splits", ((), ((0, 1),)), moves),
        )
        for thing in wrong:
            self.equal(is_verdict(PACT, SOME, thing), False)
        # More moves, and those that other ways would make.
        self.equal(is_verdict(PACT, SOME, ("splits", liars, moves + (("open", 0), ("return", SOME, 0)))), True)
        back = tuple(("return", SOME, 0) if move[0] == "return" else move for move in moves)
        self.equal(is_verdict(PACT, SOME, ("splits", liars, back)), True)

    def test_liars(self):
        lying, near, far = part(1, 3), part(0, 3), part(1, 4)
        moves = (
            ("answer", 1, (((0, 1), (3, 4)),)), ("forge", 1, lying, 0, ()), ("lay", 1, part(0, 4), None, ()),
            ("echo", 1, (), (DEED,), near), ("lock", 1, (), (DEED,), near), ("echo", 1, (), (OTHER,), far), ("lock", 1, (), (OTHER,), far),
        )
        for fall, wanted in ((lying, True), (near, True), (part(0, 4), True), (part(0, 2), False), (part(1, 2), False), (((),), False)):
            self.equal(is_verdict(SWORN, fall, ("splits", lying, moves)), wanted)
        self.equal(is_verdict(SWORN, lying, ("splits", part(1, 2), moves)), False)
        self.equal(is_verdict(SWORN, lying, ("splits", ((),), moves)), False)
        self.equal(is_verdict(SWORN, lying, ("splits", lying, moves[:-1])), False)
        # One who is no liar returns, and is not of the fall.
        self.equal(is_verdict(SWORN, lying, ("splits", lying, moves + (("return", part(0, 1), 0),))), False)
        self.equal(is_verdict(SWORN, near, ("splits", lying, moves + (("return", part(0, 1), 0),))), True)

    def test_trees(self):
        # As many trees as entries, in their sequence.
        trees = verdict(DUO, NOBODY)[1]
        self.equal(len(trees), 4)
        self.equal(is_verdict(DUO, NOBODY, ("one", trees)), True)
        small = (("wish",),)
        for wrong in (
            trees[:3], trees + trees[:1], list(trees), (), None, trees[0], tuple(list(tree) for tree in trees), trees[:3] + (small,),
            trees[:3] + ((),), trees[:3] + (None,), (trees[3],) + trees[1:3] + (trees[0] + small,), trees[1:] + (5,),
        ):
            self.equal(is_verdict(DUO, NOBODY, ("one", wrong)), False)
        for thing in (("one", trees, ()), ("one",), ["one", trees], ("splits", trees), (1, trees), ("closed", trees[0]), trees, None, 7, "one"):
            self.equal(is_verdict(DUO, NOBODY, thing), False)
        # Exchanged trees do not fit the other one's entry.
        lots = (("a", 5),)
        rows = tuple((("lot", 0, k), None, ("lot", 0, 6 - k // 2), ("lot", 0, 1), ("lot", 0, 1)) for k in (3, 5))
        pact = (lots, "plain", "own", (rows[:1], rows[1:]), ((1,), ()))
        trees = verdict(pact, ((),))[1]
        self.equal(is_verdict(pact, ((),), ("one", trees)), True)
        self.equal(is_verdict(pact, ((),), ("one", (trees[1], trees[0]) + trees[2:])), False)
        self.equal(is_verdict(pact, ((),), ("one", (trees[2], trees[1], trees[0], trees[3]))), False)

    def test_each_entry_has_its_own_two_trusts(self):
        # One trust for each step of each charter and kind, so that each entry needs another tree.
        lots = (("a", 40),)
        numbers = iter(range(21, 39))

        def row():
            ask, echo, vote = [("lot", 0, next(numbers)) for _ in range(3)]
            return (ask, echo, vote, ("lot", 0, 1), None)

        pact = (lots, "sworn", "own", ((row(), row()), (row(), row())), ((1,), ()))
        found = verdict(pact, ((),))
        self.equal((found[0], len(found[1])), ("one", 24))
        self.check_trees(pact, (0,), found[1])
        self.equal(is_verdict(pact, ((),), found), True)
        # Atoms are those of an entry's own trusts: no other tree fits, but in the place of its like.
        for at, tree in enumerate(found[1]):
            for other in found[1]:
                if other != tree:
                    self.equal(is_verdict(pact, ((),), ("one", found[1][:at] + (other,) + found[1][at + 1:])), False)

    def test_any_tree_that_is_one(self):
        # A tree that asks more than it has to is one, too.
        tree = (("second", 0, 2), ("second",), ("first", 0, 2), ("first",), ("wish",))
        self.equal(is_verdict(PACT, NOBODY, ("one", (tree,))), True)
        self.equal(is_verdict(PACT, NOBODY, ("one", (tree[1:],))), False)
        self.equal(is_verdict(PACT, ((), ((0, 1),)), ("one", (tree,))), True)
        self.equal(is_verdict(PACT, (((0, 1),), ((0, 1),)), ("one", (tree,))), False)

    def test_values_of_any_kind(self):
        deep = ()
        for _ in range(29):
            deep = (deep,)
        wide = tuple(range(4990))
        for thing in (
            deep, wide, [deep], ("one", deep), ("one", (deep,)), ("one", wide), ("splits", deep, wide), ("splits", NOBODY, deep), 10 ** 59,
            ("splits", NOBODY, wide), ("splits", NOBODY, ((("answer",),),)), ("splits", NOBODY, (deep, ("answer", 1, deep))),
            ("one", (wide,)), ("one", ((("first", 0, deep),),)), ("splits", NOBODY, (("answer", True, SOME),)), (("one",), ()), ([], []),
        ):
            self.equal(is_verdict(PACT, SOME, thing), False)

    def test_huge_lots(self):
        half = ("any", 2, (("lot", 0, 6 * 10 ** 11), ("lot", 1, 1)))
        row = (half, None, half, half, half)
        for rule in RULES:
            pact = (HUGE, "plain", rule, ((row,) * 3,) * 3, ((1, 2), (), ()))
            for counts in ((0, 0, 0), (10 ** 12, 0, 0), (2 * 10 ** 11, 1, 0), (10 ** 12, 1, 1000)):
                fall = first_houses(HUGE, counts)
                found = verdict(pact, fall)
                self.equal(found[0], "splits" if counts[1] == 1 else "one")
                self.equal(is_verdict(pact, fall, found), True)

    def test_at_the_limits(self):
        # 36 pairs of 9 entries, grids of 17 and 17.
        lots = (("a", 10 ** 12),)
        rows = tuple(
            ("any", 8, tuple(("lot", 0, 5 * 10 ** 11 + at * 10 ** 9 + k + 1) for k in range(11))) for at in range(6)
        )
        charters = tuple(((row, None, row, row, row),) * 3 for row in rows)
        pact = (lots, "plain", "bold", charters, ((1, 2), (3,), (4,), (5,), (0,), ()))
        found = verdict(pact, ((),))
        self.equal((found[0], len(found[1])), ("one", 324))
        self.equal(is_verdict(pact, ((),), found), True)
        self.equal(is_verdict(pact, (((0, 10 ** 12),),), verdict(pact, (((0, 10 ** 12),),))), True)

    def test_wrong_ones(self):
        for call, more in ((verdict, ()), (is_verdict, (None,))):
            self.refused(BadPact(-1, "shape"), call, None, None, *more)
            self.refused(BadPact(-1, "manner"), call, PACT[:1] + ("Plain",) + PACT[2:], None, *more)
            for crowd, at in ((None, -1), ([(), ()], -1), ((((0, 4),), ()), 0), (((), ((0, True),)), 1)):
                self.refused(BadCrowd(at), call, DUO, crowd, *more)
