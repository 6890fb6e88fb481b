"""[90], [95], (G13): pacts nested."""

import random
import time

from assentwhole.commons import common_of
from assentwhole.errors import BadLots, BadPact, NotFor, NotUsable
from assentwhole.nesting import nest
from assentwhole.nestpacts import nest_pact
from assentwhole.outwaking import outwakers
from assentwhole.pactchecks import check_pact
from assentwhole.splitcourses import split_course
from assentwhole.splitting import splitters
from assentwhole.stairs import stair_of
from assentwhole.verdicts import is_verdict, verdict
from assentwhole.waking import wakers
from tests.samples import Checks, all_counts, random_pact, step_trust, told_holds

STEPS = ("ask", "echo", "vote", "look", "hold")
WORDS = (("u", 1), ("v", 1), ("w", 1))
MOST = ("any", 2, tuple(("lot", at, 1) for at in range(3)))
ROW = (MOST, None, MOST, MOST, MOST)
PACT = (WORDS, "plain", "calm", ((ROW,), (ROW,)), ((1,), ()))
PART_LOTS = ((("a", 3),), (("b", 2), ("c", 1)), (("d", 1),))
TWO, ONE = ("lot", 0, 2), ("lot", 0, 1)
PARTS = ((PART_LOTS[0], TWO, TWO), (PART_LOTS[1], ("any", 1, (ONE, ("lot", 1, 1))), ("lot", 0, 2)), (PART_LOTS[2], ONE, ONE))


def told_nested(parts, words, trust, place, counts):
    """Whether the nest of trust holds at counts, by the words of [37]; place is that of a part's trust."""
    told, rest = [], counts
    for part in parts:
        told.append(int(told_holds(part[0], part[place], rest[:len(part[0])])))
        rest = rest[len(part[0]):]
    return told_holds(words, trust, tuple(told))


class NestPactTests(Checks):
    def check(self, pact, parts, found):
        """What is nested is right, trust by trust."""
        lots = tuple(lot for part in parts for lot in part[0])
        self.equal((found[:3], found[4]), ((lots,) + pact[1:3], pact[4]))
        self.equal([len(rows) for rows in found[3]], [len(rows) for rows in pact[3]])
        for old_rows, rows in zip(pact[3], found[3]):
            for old, row in zip(old_rows, rows):
                self.equal((len(row), row[1]), (5, None))
                for step, trust, nested in zip(STEPS, old, row):
                    if trust is not None:
                        place = 1 if step in ("ask", "look") else 2
                        for counts in all_counts(lots):
                            self.equal(told_holds(lots, nested, counts), told_nested(parts, pact[0], trust, place, counts))
        self.equal(check_pact(found), len(pact[3]))

    def test_one_pact(self):
        found = nest_pact(PACT, PARTS)
        self.check(PACT, PARTS, found)
        self.equal(stair_of(found[0], found[3][0][0][0]), ((0, 0, 1, 1), (0, 1, 0, 1), (2, 0, 0, 1), (2, 0, 1, 0), (2, 1, 0, 0)))
        self.equal(stair_of(found[0], found[3][1][0][2]), ((0, 2, 0, 1), (2, 0, 0, 1), (2, 2, 0, 0)))

    def some_nested(self, seed, many):
        dice = random.Random(seed)
        for at in range(many):
            size = dice.randint(1, 3)
            pact = random_pact(dice, WORDS[:size], "plain", ("own", "calm", "bold")[at % 3], dice.randint(1, 3), dice.randint(1, 2), 2)
            parts = tuple((lots, step_trust(dice, lots), step_trust(dice, lots)) for lots in PART_LOTS[:size])
            yield pact, parts

    def test_small_pacts(self):
        for pact, parts in self.some_nested(90, 20):
            self.check(pact, parts, nest_pact(pact, parts))

    def test_splitters_are_nested(self):
        # The splitters are the nest of the splitters, each word being the common of its second and first.
        for pact, parts in self.some_nested(91, 40):
            found = nest_pact(pact, parts)
            both = tuple((lots, ("least", common_of(lots, stair_of(lots, second), stair_of(lots, first)))) for lots, first, second in parts)
            lots, trust = nest(pact[0], ("least", splitters(pact)), both)
            self.equal(lots, found[0])
            self.equal(splitters(found), stair_of(lots, trust))

    def test_it_may_be_passed_in_again(self):
        for pact, parts in self.some_nested(92, 10):
            found = nest_pact(pact, parts)
            fall = ((),) * len(found[0])
            self.equal(is_verdict(found, fall, verdict(found, fall)), True)
            self.assertIsNotNone(wakers(found))
            if splitters(found):
                everyone = tuple(((0, size),) for _, size in found[0])
                self.assertIsNotNone(split_course(found, everyone))

    def test_twice(self):
        # Units of units: what is nested is nested again, over lots of size 1.
        words = (("x", 1), ("y", 1), ("z", 1))
        parts = tuple((tuple((f"{word}{at}", 1) for at in range(2)), ("any", 1, (ONE, ("lot", 1, 1))), ("any", 2, (ONE, ("lot", 1, 1)))) for word, _ in words)
        row = (MOST, None, MOST, MOST, MOST)
        once = nest_pact((words, "plain", "own", ((row,),), ((),)), parts)
        self.check((words, "plain", "own", ((row,),), ((),)), parts, once)
        more = tuple((((f"{word}s", 5),), ("lot", 0, 3), ("lot", 0, 4)) for word, _ in once[0])
        twice = nest_pact(once, more)
        self.equal(twice[0], tuple((f"{word}s", 5) for word, _ in once[0]))
        self.equal(stair_of(twice[0], twice[3][0][0][0])[0], (0, 0, 0, 3, 0, 3))
        self.equal(stair_of(twice[0], twice[3][0][0][2])[0], (0, 0, 4, 4, 4, 4))
        self.equal(wakers(twice), stair_of(twice[0], ("least", wakers(twice))))

    def test_at_the_limits(self):
        # Parts whose trusts have a grid of nearly a thousand, and a pact of six charters and three kinds.
        size = 10 ** 12
        lots = tuple((f"p{at}", size) for at in range(3))
        steps = [5 * 10 ** 11 + at for at in range(9)]
        first = ("least", tuple(sorted((steps[a], steps[b], steps[12 - a - b]) for a in range(9) for b in range(9) if 4 <= a + b <= 12)))
        parts = ((lots, first, ("spare", first[1])), ((("q", 1),), ONE, ONE), ((("r", 1),), ONE, ONE))
        pact = (WORDS, "plain", "bold", ((ROW,) * 3,) * 6, ((1,), (2,), (3,), (4,), (5,), ()))
        start = time.process_time()
        found = nest_pact(pact, parts)
        self.equal(check_pact(found), 6)
        self.assertGreater(len(wakers(found)), 3)
        self.assertGreater(len(outwakers(found)), 3)
        self.assertLess(time.process_time() - start, 20)

    def test_wrong_ones(self):
        self.refused(BadPact(-1, "shape"), nest_pact, None, None)
        self.refused(BadLots(1, "twice"), nest_pact, ((("u", 1), ("u", 1)),) + PACT[1:], None)
        two = ((("u", 1), ("v", 2)), "plain", "own", (((ONE, None, ONE, ONE, ONE),),), ((),))
        for parts in (None, PARTS[:2], PARTS):
            self.refused(NotUsable("pact"), nest_pact, two, parts)
        a, b, c = PARTS
        never, always = ("lot", 0, 9), ("lot", 0, 0)
        for parts in (
            None, (), [a, b, c], (a, b), (a, b, c, c), (a, b, list(c)), (a, b, c[:2]), (a, b, c + (ONE,)), (a, b, None), (a, b, (None, ONE, ONE)),
            (a, b, (c[0], ONE, None)), (a, b, (c[0], always, ONE)), (a, b, (c[0], ONE, always)), (a, b, (c[0], ONE, ("lot", 0, 2))),
            (a, b, (c[0], ("lot", 0, 2), ONE)), (a, b, a), (a, b, ((("d", True),), ONE, ONE)), (a, b, ((("of", 1),), ONE, ONE)),
            (a, b, (c[0], ("lot", 0, True), ONE)), (a, b, (c[0], never, ONE)), (a, (b[0], ("lot", 2, 1), b[2]), c), (a, b, ((("b", 1),), ONE, ONE)),
        ):
            self.refused(NotUsable("parts"), nest_pact, PACT, parts)
        sworn = (WORDS[:1], "sworn", "own", (((ONE, ONE, ONE, ONE, None),),), ((),))
        self.refused(NotUsable("parts"), nest_pact, sworn, None)
        self.refused(NotFor("manner"), nest_pact, sworn, (c,))
        self.refused(NotUsable("pact"), nest_pact, ((("u", 2),),) + sworn[1:], (c,))
