"""[85], [95], (G10): pacts widened as far as a wish lets."""

import random
import time

from assentwhole.bearing import bears
from assentwhole.errors import BadPact, BadTrust, NotUsable
from assentwhole.mislooking import misholders, mislookers
from assentwhole.orders import within
from assentwhole.pactchecks import check_pact
from assentwhole.pactparts import step_stair
from assentwhole.splitting import splitters
from assentwhole.stairs import stair_of
from assentwhole.sufficing import suffice
from assentwhole.waking import wakers
from assentwhole.widening import is_full, widened
from tests.samples import DUO, ONLY, PACT, Checks, all_counts, some_pacts, told_behind, under
from tests.test_splitting import exchanged
from tests.test_sufficing import NEVER, SOME, some_wish

PLACES = {"ask": 0, "vote": 2, "look": 3, "hold": 4}


def borne_wish(dice, pact):
    """A wish that the pact bears, or None if it bears none."""
    stair = splitters(pact)
    if any(not any(member) for member in stair):
        return None
    more = some_wish(dice, pact[0])
    return ("any", 1, (("least", stair), more)) if dice.randrange(2) else ("least", stair)


def told_wide(pact, wish):
    """The pact by the words of [85], one trust after another."""
    steps = ("vote", "ask", "look") + (("hold",) if pact[1:3] == ("plain", "own") else ())
    for step in steps:
        rows = pact[3]
        for charter in told_behind(pact[4], 0):
            for kind in range(len(rows[0])):
                rows = exchanged(rows, charter, kind, PLACES[step], ("least", suffice(pact, wish, step, charter)))
        pact = pact[:3] + (rows, pact[4])
    return pact


class WideningTests(Checks):
    def test_examples(self):
        self.equal((wakers(DUO), wakers(widened(DUO, SOME))), (((2, 1),), ((2, 0),)))
        self.equal((is_full(DUO, SOME), is_full(PACT, SOME)), (False, True))

    def test_small_pacts(self):
        dice = random.Random(85)
        wide = full = 0
        for pact in some_pacts(50, 85):
            wish = borne_wish(dice, pact)
            if wish is None:
                continue
            found = widened(pact, wish)
            self.equal(found, told_wide(pact, wish))
            self.equal(check_pact(found), len(pact[3]))
            self.equal(within(pact[0], wakers(pact), wakers(found)), True)
            stair = stair_of(pact[0], wish)
            for table in self.tables(found):
                self.equal(within(pact[0], table, stair), True)
            wide += found != pact
            self.equal(widened(found, wish), found)
            self.equal(is_full(found, wish), True)
            full += is_full(pact, wish)
            same = all(
                step_stair(pact, c, k, step) == step_stair(found, c, k, step)
                for c in told_behind(pact[4], 0) for k in range(len(pact[3][0])) for step in self.steps(pact)
            )
            self.equal(is_full(pact, wish), same)
        self.assertGreater(wide, 30)
        self.assertGreater(full, 0)

    def steps(self, pact):
        return ("vote", "ask", "look", "hold") if pact[1:3] == ("plain", "own") else ("vote", "ask", "look")

    def tables(self, pact):
        found = [splitters(pact), mislookers(pact)]
        return found + [misholders(pact)] if pact[1:3] == ("plain", "own") else found

    def test_no_crowd_can_be_added(self):
        # One crowd more in a trust, with all above it, and something is no more within the wish.
        dice = random.Random(86)
        added = 0
        for pact in some_pacts(50, 86):
            wish = borne_wish(dice, pact)
            if wish is None:
                continue
            pact = widened(pact, wish)
            stair = stair_of(pact[0], wish)
            for charter in told_behind(pact[4], 0):
                for step in self.steps(pact):
                    old = step_stair(pact, charter, 0, step)
                    fresh = [x for x in all_counts(pact[0]) if any(x) and not any(under(member, x) for member in old)]
                    for counts in dice.sample(fresh, min(3, len(fresh))):
                        trust = ("any", 1, (("least", old), ("least", (counts,))))
                        wider = pact[:3] + (exchanged(pact[3], charter, 0, PLACES[step], trust), pact[4])
                        self.assertFalse(all(within(pact[0], table, stair) for table in self.tables(wider)))
                        added += 1
        self.assertGreater(added, 100)

    def test_full_but_for_one_step(self):
        # With just one trust a little narrower than it may be a pact is not full.
        for pact in (widened(DUO, SOME), widened(DUO, ("lot", 0, 1))):
            for charter in (0, 1):
                for step in ("ask", "vote", "look", "hold"):
                    old = step_stair(pact, charter, 0, step)
                    narrow = ("any", 2, (("least", old), ONLY))
                    other = pact[:3] + (exchanged(pact[3], charter, 0, PLACES[step], narrow), pact[4])
                    self.equal(is_full(other, SOME), False)
                    same = pact[:3] + (exchanged(pact[3], charter, 0, PLACES[step], ("any", 1, (("least", old),))), pact[4])
                    self.equal(is_full(same, SOME), True)

    def test_what_is_not_widened(self):
        # Echo trusts, charters that are not come to, hold trusts by other rules, lots and changes stay.
        apart = DUO[:4] + (((), (0,)),)
        found = widened(apart, SOME)
        self.equal(found[3][1], apart[3][1])
        self.equal(found[0:3] + found[4:], apart[0:3] + apart[4:])
        for rule in ("calm", "bold"):
            found = widened(DUO[:2] + (rule,) + DUO[3:], SOME)
            self.equal([rows[0][4] for rows in found[3]], [rows[0][4] for rows in DUO[3]])
            self.equal([rows[0][1] for rows in found[3]], [None, None])
        three = ("lot", 0, 3)
        row = (three, three, ("lot", 0, 4), three, None)
        sworn = ((("n", 4),), "sworn", "own", ((row,),), ((),))
        found = widened(sworn, ("lot", 0, 2))
        self.equal(found[3][0][0], (("least", ((3,),)), three, ("least", ((3,),)), ("least", ((3,),)), None))

    def test_none(self):
        self.equal((widened(DUO, ONLY), is_full(DUO, ONLY)), (None, False))
        self.equal((widened(DUO, NEVER), is_full(DUO, NEVER)), (None, False))
        for pact in some_pacts(4, 87):
            for wish in (SOME, ("lot", 0, 2) if pact[0][0][1] > 1 else SOME, NEVER):
                self.equal(widened(pact, wish) is None, not bears(pact, wish))

    def test_at_the_limits(self):
        # Six charters, and a wish times the stairs that have to meet it of nearly a thousand.
        size = 10 ** 12
        lots = (("a", size), ("b", size), ("c", size))
        high = [size - 10 ** 9 * at * at for at in range(1, 6)]
        stair = tuple(sorted((high[a], high[b], high[6 - a - b]) for a in range(5) for b in range(5) if 2 <= a + b <= 6))[:8]
        trust = ("least", stair)
        row = (trust, None, trust, trust, trust)
        pact = (lots, "plain", "own", ((row,),) * 6, ((1,), (2,), (3,), (4,), (5,), (0,)))
        low = [size // 2 + 7 * at * at for at in range(1, 5)]
        wish = ("least", tuple(sorted((low[a], low[b], low[3 - a - b]) for a in range(4) for b in range(4) if a + b <= 3)))
        start = time.process_time()
        found = widened(pact, wish)
        self.equal(is_full(found, wish), True)
        self.assertLess(time.process_time() - start, 20)

    def test_wrong_ones(self):
        for call in (widened, is_full):
            self.refused(BadPact(-1, "shape"), call, None, None)
            for wish, error in (
                (None, BadTrust(0, "shape")), (["lot", 0, 1], BadTrust(0, "shape")), (("lot", True, 1), BadTrust(0, "lot")),
                (("lot", 0, 5), BadTrust(0, "many")), (("lot", 0, 0), NotUsable("wish")), (("spare", ()), NotUsable("wish")),
            ):
                self.refused(error, call, DUO, wish)
