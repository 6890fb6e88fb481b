"""[83]: whether a pact bears a wish, and where it does not."""

import random
import time

from assentwhole.bearing import bears, first_breach
from assentwhole.entrylists import entries_of, entry_stair
from assentwhole.errors import BadPact, BadTrust, NotUsable
from assentwhole.orders import first_unmet, within
from assentwhole.splitting import splitters
from assentwhole.stairs import stair_of
from tests.playing import A, GRAPHS, single_entry_pact
from tests.samples import DUO, ONLY, RULES, Checks, random_stair, some_pacts, told_stair, under
from tests.test_entrylists import trusts_of
from tests.test_sufficing import NEVER, SOME, some_wish


class BearingTests(Checks):
    def test_examples(self):
        self.equal((bears(DUO, SOME), first_breach(DUO, ONLY)), (True, (("vote", 0, 0, 0, 0), (2, 0), (2, 0))))

    def told_breach(self, pact, wish):
        for entry in entries_of(pact):
            if not within(pact[0], entry_stair(pact, entry), wish):
                one, two = [stair_of(pact[0], trust) for trust in trusts_of(pact, entry)]
                return (entry,) + first_unmet(pact[0], one, two, wish)
        return None

    def test_small_pacts(self):
        dice = random.Random(83)
        found = {True: 0, False: 0}
        for pact in some_pacts(20, 83):
            # What splits, made wider here and there, is borne; what is not wished for sometimes is not.
            for wish in (some_wish(dice, pact[0]), ("least", splitters(pact)), ("any", 1, (("least", splitters(pact)), SOME)), NEVER):
                stair = stair_of(pact[0], wish)
                if any(not any(member) for member in stair):
                    continue
                borne = within(pact[0], splitters(pact), stair)
                found[borne] += 1
                self.equal(bears(pact, wish), borne)
                self.equal(first_breach(pact, wish), self.told_breach(pact, stair))
        self.assertGreater(min(found.values()), 50)

    def test_one_crowd_less(self):
        # A wish of just the splitters is borne; one that lacks the crowds of some counts of theirs is not.
        tried = 0
        for pact in some_pacts(20, 84):
            stair = splitters(pact)
            if any(not any(member) for member in stair):
                continue
            self.equal(bears(pact, ("least", stair)), True)
            for member in stair:
                less = told_stair(pact[0], lambda x: x != member and any(under(low, x) for low in stair))
                self.equal(bears(pact, ("least", less)), False)
                self.equal(first_breach(pact, ("least", less)), self.told_breach(pact, less))
                tried += 1
        self.assertGreater(tried, 10)

    def test_the_first_entry(self):
        for manner in ("plain", "sworn"):
            for rule in RULES:
                for changes in GRAPHS[:7]:
                    for entry in entries_of(single_entry_pact(manner, rule, changes, 2, ("vote", 0, 0, 0, 0))):
                        pact = single_entry_pact(manner, rule, changes, 2, entry)
                        stair = stair_of(pact[0], A)
                        self.equal(first_breach(pact, A), self.told_breach(pact, stair))
                        self.equal(bears(pact, A), False)

    def test_the_members(self):
        stairs = (((0, 1), (2, 0)), ((1, 1), (3, 0)))
        for one in stairs:
            for two in stairs:
                row = (("least", two), None, ("least", one), ("lot", 0, 1), ("lot", 0, 1))
                pact = (DUO[0], "plain", "own", ((row,),), ((),))
                for wish in (SOME, ONLY, ("lot", 0, 2)):
                    found = first_breach(pact, wish)
                    pair = first_unmet(DUO[0], one, two, stair_of(DUO[0], wish))
                    self.equal(found, None if pair is None else (("vote", 0, 0, 0, 0),) + pair)

    def test_at_the_limits(self):
        # 324 entries of stairs of seven members, and a wish of many members.
        dice = random.Random(84)
        lots = tuple((f"l{at}", 10 ** 12) for at in range(3))
        unit = 10 ** 11
        stair = tuple((unit * (n + 2), unit * (8 - n), unit * 9) for n in range(7))
        trust = ("least", stair)
        pact = (lots, "plain", "bold", (((trust, None, trust, SOME, SOME),) * 3,) * 6, ((1,), (2,), (3,), (4,), (5,), ()))
        wish = random_stair(dice, lots, 60) + ((0, 0, 9 * 10 ** 11),)
        wish = tuple(sorted(row for row in wish if not any(o != row and all(x <= y for x, y in zip(o, row)) for o in wish)))
        start = time.process_time()
        self.equal(bears(pact, ("least", wish)), within(lots, splitters(pact), wish))
        self.equal(bears(pact, ("lot", 2, 8 * 10 ** 11)), True)
        self.assertLess(time.process_time() - start, 20)

    def test_wrong_ones(self):
        for call in (bears, first_breach):
            self.refused(BadPact(-1, "shape"), call, None, None)
            for wish, error in (
                (None, BadTrust(0, "shape")), (["lot", 0, 1], BadTrust(0, "shape")), (("lot", True, 1), BadTrust(0, "lot")),
                (("lot", 0, 5), BadTrust(0, "many")), (("lot", 0, 0), NotUsable("wish")), (("spare", ()), NotUsable("wish")),
            ):
                self.refused(error, call, DUO, wish)
