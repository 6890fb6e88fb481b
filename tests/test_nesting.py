"""[37]: nests."""

import random

from assentwhole.commons import common_of
from assentwhole.errors import BadLots, BadTrust, NotUsable
from assentwhole.grids import grid_of
from assentwhole.holding import holds
from assentwhole.mirrorstairs import mirror_stair
from assentwhole.nesting import nest
from assentwhole.partners import partner_of
from assentwhole.stairjoins import both_of, either_of
from assentwhole.stairs import stair_of
from assentwhole.trustchecks import check_trust
from tests.samples import TWO, Checks, all_counts, all_stairs, random_trust, sizes_of, told_holds

UNITS = (((("a", 3),), ("lot", 0, 2)), ((("b", 1),), ("lot", 0, 1)))
UV = (("u", 1), ("v", 1))


def depth_of(trust):
    parts = trust[-1] if trust[0] in ("any", "heavy") else ()
    return 1 + max([depth_of(part) for part in parts], default=0)


class NestTests(Checks):
    def right(self, words, trust, parts):
        """nest does what it should for these."""
        lots, nested = nest(words, trust, parts)
        self.equal(lots, tuple(lot for part in parts for lot in part[0]))
        check_trust(lots, nested)
        self.assertLessEqual(depth_of(nested), 20)
        for counts in all_counts(lots):
            reached, start = [], 0
            for there, part in parts:
                own = counts[start:start + len(there)]
                reached.append(1 if told_holds(there, part, own) else 0)
                start += len(there)
            self.equal(holds(lots, nested, counts), told_holds(words, trust, tuple(reached)))

    def test_examples(self):
        groups, nested = nest(UV, ("least", ((0, 1), (1, 0))), UNITS)
        self.equal(groups, (("a", 3), ("b", 1)))
        self.equal(stair_of(groups, nested), ((0, 1), (2, 0)))

    def test_some_nests(self):
        dice = random.Random(21)
        words = (("u", 1), ("v", 1), ("w", 1))
        places = ((("a", 2), ("b", 1)), (("c", 2),), (("u", 1), ("v", 1)))
        for _ in range(250):
            parts = []
            while len(parts) < 3:
                there = places[len(parts)]
                trust = random_trust(dice, there, 2)
                if told_holds(there, trust, sizes_of(there)):
                    parts.append((there, trust))
            self.right(words, random_trust(dice, words), tuple(parts))

    def test_each_kind_of_trust_over_the_words(self):
        for trust in (
            ("lot", 0, 0), ("lot", 0, 1), ("lot", 1, 2), ("any", 0, ()), ("any", 1, ()), ("least", ()), ("spare", ()),
            ("spare", ((1, 1),)), ("spare", ((0, 1), (1, 0))), ("least", ((0, 0),)), ("spare", ((0, 0),)),
            ("heavy", 3, (2, 1), (("lot", 0, 1), ("lot", 1, 1))), ("least", ((1, 1),)),
        ):
            self.right(UV, trust, UNITS)
            always = ((UNITS[0][0], ("any", 0, ())), UNITS[1])
            self.right(UV, trust, always)
            self.right(UV, trust, always[::-1])

    def test_one_word(self):
        self.right((("u", 1),), ("lot", 0, 1), UNITS[:1])
        self.right(words=(("u", 1),), trust=("lot", 0, 1), parts=(((("u", 1),), ("lot", 0, 1)),))

    def test_great_lots(self):
        big = 10 ** 12
        parts = tuple(
            ((("a%d" % at, big), ("b%d" % at, big)), ("any", 1, (("lot", 0, big // 2), ("lot", 1, big // 3 + at))))
            for at in range(4)
        )
        words = tuple((f"w{at}", 1) for at in range(4))
        lots, nested = nest(words, ("any", 2, tuple(("lot", at, 1) for at in range(4))), parts)
        self.equal(grid_of(lots, nested), 256)
        self.equal(len(stair_of(lots, nested)), 24)
        self.equal(holds(lots, nested, (big // 2, 0, 0, 0, 0, big // 3 + 2, 0, 0)), True)
        self.equal(holds(lots, nested, (big // 2, big, 0, 0, big // 2 - 1, big // 3 + 1, 0, 0)), False)

    def test_deep_and_wide(self):
        words = tuple((f"w{at}", 1) for at in range(8))
        trust = ("any", 4, tuple(("lot", at, 1) for at in range(8)))
        for _ in range(4):
            trust = ("any", 1, (trust, ("spare", ((0,) * 7 + (1,),))))
        parts = tuple((((f"n{at}", 9),), ("any", 2, (("lot", 0, 1),) * 12)) for at in range(8))
        lots, nested = nest(words, ("any", 2, (trust,) * 12), parts)
        self.assertLessEqual(depth_of(nested), 20)
        lots, again = nest((("x", 1),), ("lot", 0, 1), ((lots, nested),))
        self.equal(stair_of(lots, again), stair_of(lots, nested))
        wanted = stair_of(words, trust)
        self.equal(stair_of(lots, nested), wanted)

    def test_wrong_words(self):
        self.refused(BadLots(-1, "shape"), nest, None, None, None)
        self.refused(BadLots(1, "twice"), nest, (("u", 1), ("u", 2)), None, None)
        self.refused(NotUsable("words"), nest, (("u", 1), ("v", 2)), None, None)
        self.refused(NotUsable("words"), nest, (("u", 3),), None, None)

    def test_wrong_trust(self):
        self.refused(BadTrust(0, "shape"), nest, UV, None, None)
        self.refused(BadTrust(0, "lot"), nest, UV, ("lot", 2, 1), None)
        self.refused(BadTrust(0, "many"), nest, UV, ("lot", 0, 3), None)
        self.refused(BadTrust(0, "many"), nest, UV, ("lot", 0, True), None)

    def test_wrong_parts(self):
        one, two = UNITS
        wrong = (
            None, [], [one, two], (), (one,), (one, two, ((("c", 1),), ("lot", 0, 1))), (one, None), (one, list(two)),
            (one, two + (1,)), (one, (two[0],)), (one, (None, two[1])), (one, ((("b", 0),), two[1])),
            (one, (two[0], ("lot", 0, 3))), (one, (two[0], ("lot", 0, 2))), (one, (two[0], ("any", 1, ()))),
            (one, (two[0], None)), (one, ((("a", 1),), two[1])), (one, one), (one, (two[0], ("lot", 1, 1))),
            (one, (two[0], ("lot", 0, True))), ((one[0], TWO), (one[0], TWO)), "ab", 5,
        )
        for parts in wrong:
            self.refused(NotUsable("parts"), nest, UV, ("lot", 0, 1), parts)

    def test_joins_of_nests_are_nests_of_joins(self):
        # (G13): part by part, the common, the mirror and the partner; either and both over the same parts.
        dice = random.Random(22)
        words = (("u", 1), ("v", 1), ("w", 1))
        places = ((("a", 2), ("b", 1)), (("c", 2),), (("d", 1), ("e", 1)))

        def nested(stair, stairs):
            parts = tuple((there, ("least", part)) for there, part in zip(places, stairs))
            return stair_of(*nest(words, ("least", stair), parts))

        def some_parts(keep):
            found = []
            for there in places:
                every = [stair for stair in all_stairs(there) if keep(there, stair)]
                found.append(dice.choice(every))
            return found

        lots = tuple(lot for there in places for lot in there)
        every = all_stairs(words)
        for _ in range(120):
            one, two, wish = (dice.choice(every) for _ in range(3))
            first, second = (some_parts(lambda there, stair: stair) for _ in range(2))
            commons = [common_of(there, x, y) for there, x, y in zip(places, first, second)]
            wanted = nested(common_of(words, one, two), commons)
            self.equal(common_of(lots, nested(one, first), nested(two, second)), wanted)
            for join in (either_of, both_of):
                self.equal(join(lots, nested(one, first), nested(two, first)), nested(join(words, one, two), first))
            some = some_parts(lambda there, stair: stair and any(stair[0]))
            mirrors = [mirror_stair(there, part) for there, part in zip(places, some)]
            self.equal(mirror_stair(lots, nested(one, some)), nested(mirror_stair(words, one), mirrors))
            partners = [partner_of(there, x, y) for there, x, y in zip(places, first, some)]
            if all(partners):
                wanted = nested(partner_of(words, one, wish), partners)
                self.equal(partner_of(lots, nested(one, first), nested(wish, some)), wanted)
