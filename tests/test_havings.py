"""[84], [95], (G11): what can be had."""

import random

from assentwhole.bearing import bears
from assentwhole.commons import common_of
from assentwhole.errors import BadLots, BadTrust, NotUsable
from assentwhole.havings import can_be, least_pact
from assentwhole.outwaking import outwakers
from assentwhole.orders import within
from assentwhole.pactchecks import check_pact
from assentwhole.splitting import splitters
from assentwhole.stairs import stair_of
from assentwhole.waking import wakers
from tests.samples import FOUR, HUGE, LOTS, SMALL_LOTS, SWORN, Checks, Houses, some_pacts, step_trust
from tests.test_sufficing import NEVER, some_wish

SOME, THREE = ("lot", 0, 1), ("lot", 0, 3)


class HavingTests(Checks):
    def test_examples(self):
        self.equal((can_be(FOUR, THREE, THREE), least_pact(FOUR, "sworn", SOME, THREE) == SWORN), (False, True))

    def test_against_all_crowds(self):
        dice = random.Random(84)
        found = {True: 0, False: 0}
        for lots in SMALL_LOTS:
            houses = Houses(lots)
            for _ in range(30):
                wish, keep = some_wish(dice, lots), step_trust(dice, lots)
                kept = houses.in_trust(keep)
                can = houses.common(kept, kept) <= houses.in_trust(wish)
                found[can] += 1
                self.equal(can_be(lots, wish, keep), can)
                for manner in ("plain", "sworn"):
                    self.least(lots, manner, wish, keep, can)
        self.assertGreater(min(found.values()), 20)

    def least(self, lots, manner, wish, keep, can):
        pact = least_pact(lots, manner, wish, keep)
        if not can:
            self.equal(pact, None)
            return
        row = (keep, None, keep, keep, keep) if manner == "plain" else (keep, keep, keep, keep, None)
        self.equal(pact, (lots, manner, "own", ((row,),), ((),)))
        self.equal(check_pact(pact), 1)
        self.equal(bears(pact, wish), True)
        self.equal(wakers(pact), stair_of(lots, keep))

    def test_no_pact_has_more(self):
        # The common of the wakers with themselves is within the splitters, and so is that of the outwakers.
        for pact in some_pacts(12, 184):
            for stair in (wakers(pact), outwakers(pact)):
                self.equal(within(pact[0], common_of(pact[0], stair, stair), splitters(pact)), True)

    def test_huge_lots(self):
        keep = ("any", 1, (("lot", 0, 6 * 10 ** 11), ("lot", 2, 900)))
        self.equal(can_be(HUGE, ("any", 1, (("lot", 0, 1), ("lot", 2, 1))), keep), False)
        keep = ("any", 2, keep[2])
        self.equal(can_be(HUGE, ("any", 2, (("lot", 0, 2 * 10 ** 11), ("lot", 2, 800))), keep), True)
        self.equal(can_be(HUGE, ("any", 2, (("lot", 0, 2 * 10 ** 11 + 1), ("lot", 2, 800))), keep), False)

    def test_wrong_ones(self):
        self.refused(BadLots(-1, "shape"), can_be, None, None, None)
        self.refused(BadLots(-1, "shape"), least_pact, [], None, None, None)
        for manner in (None, "Plain", True, ["plain"], "", ("plain",)):
            self.refused(NotUsable("manner"), least_pact, LOTS, manner, None, None)
        for call, ahead in ((can_be, ()), (least_pact, ("plain",))):
            self.refused(BadTrust(0, "shape"), call, LOTS, *ahead, None, None)
            self.refused(BadTrust(0, "many"), call, LOTS, *ahead, ("lot", 0, 5), ("lot", 0, 0))
            self.refused(NotUsable("wish"), call, LOTS, *ahead, ("lot", 0, 0), None)
            self.refused(BadTrust(0, "lot"), call, LOTS, *ahead, SOME, ("lot", True, 1))
            for keep in (("lot", 0, 0), ("lot", 0, 4), NEVER, ("spare", ()), ("least", ())):
                self.refused(NotUsable("keep"), call, LOTS, *ahead, NEVER, keep)
