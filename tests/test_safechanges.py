"""[88], (G12): safe changes."""

import itertools

from assentwhole.bearing import bears
from assentwhole.errors import BadPact, NotFor, NotUsable
from assentwhole.lones import lone_charters
from assentwhole.routes import route_of, two_steps
from assentwhole.safechanges import safe_changes
from tests.samples import DUO, LOTS, ONLY, SWORN, Checks
from tests.test_joints import PAIR
from tests.test_lones import WRONG_WISHES, some_cases, told_suit
from tests.test_sufficing import SOME, WISH


class SafeTests(Checks):
    def test_examples(self):
        self.equal((safe_changes(DUO, SOME), safe_changes(PAIR, WISH)), (((1,), (0,)), ((), ())))

    def test_small_pacts(self):
        found = {True: 0, False: 0}
        for pact, wish in some_cases(188, 60):
            if pact[2] != "own":
                self.refused(NotFor("rule"), safe_changes, pact, wish)
                continue
            charters = range(len(pact[3]))
            told = tuple(tuple(d for d in charters if d != c and told_suit(pact, wish, c, d)) for c in charters)
            self.equal(safe_changes(pact, wish), told)
            found[any(told)] += 1
        self.assertGreater(min(found.values()), 10)

    def test_one_that_does_not_suit_itself(self):
        # Any house is enough for 1, all are needed for 0: they suit, though 1 does not suit itself.
        loose, every = ("any", 1, (SOME, ONLY)), ("any", 2, (("lot", 0, 3), ONLY))
        rows = tuple(((trust, None, trust, trust, trust),) for trust in (every, loose))
        for changes in (((1,), ()), ((), ()), ((), (0,))):
            pact = (LOTS, "plain", "own", rows, changes)
            self.equal((safe_changes(pact, WISH), lone_charters(pact, WISH)), (((1,), (0,)), (0,)))
            self.equal((two_steps(pact, WISH, 0, 1), route_of(pact, WISH, 0, 1), route_of(pact, WISH, 1, 0)), (None, None, None))

    def test_which_tables_of_changes_are_safe(self):
        # Of lone charters all tables within the safe changes bear the wish, whichever is first; others do not.
        tried = {True: 0, False: 0}
        for pact, wish in some_cases(189, 60):
            lone = lone_charters(pact, wish)
            if pact[2] != "own" or not 2 <= len(lone) <= 3:
                continue
            rows = tuple(pact[3][charter] for charter in lone)
            there = pact[:3] + (rows, ((),) * len(rows))
            safe = safe_changes(there, wish)
            places = range(len(rows))
            edges = [(c, d) for c in places for d in places if c != d]
            for many in range(len(edges) + 1):
                for some in itertools.combinations(edges, many):
                    changes = tuple(tuple(d for d in places if (c, d) in some) for c in places)
                    within = all(d in safe[c] for c, d in some)
                    self.equal(self.borne_from_each(there, changes, wish), within)
                    tried[within] += 1
        self.assertGreater(min(tried.values()), 5)

    def borne_from_each(self, pact, changes, wish):
        """Whether the wish is borne whichever charter is first."""
        many = len(pact[3])
        for first in range(many):
            order = [first] + [c for c in range(many) if c != first]
            rows = tuple(pact[3][c] for c in order)
            led = tuple(tuple(sorted(order.index(d) for d in changes[c])) for c in order)
            if not bears(pact[:3] + (rows, led), wish):
                return False
        return True

    def test_bearing_is_suiting(self):
        # By own a wish is borne if each charter that is come to suits itself and all that may follow it.
        for pact, wish in some_cases(190, 30):
            if pact[2] == "own":
                come = {0}
                for _ in pact[3]:
                    come |= {d for c in come for d in pact[4][c]}
                told = all(told_suit(pact, wish, c, d) for c in come for d in (c,) + pact[4][c])
                self.equal(bears(pact, wish), told)

    def test_wrong_ones(self):
        self.refused(BadPact(-1, "shape"), safe_changes, None, None)
        for pact in (DUO, DUO[:2] + ("calm",) + DUO[3:], DUO[:2] + ("bold",) + DUO[3:]):
            for wish, error in WRONG_WISHES:
                self.refused(error, safe_changes, pact, wish)
        for rule in ("calm", "bold"):
            self.refused(NotFor("rule"), safe_changes, DUO[:2] + (rule,) + DUO[3:], SOME)
        self.equal(safe_changes(SWORN, SOME), ((),))
        self.refused(NotUsable("wish"), safe_changes, SWORN, ("lot", 0, 0))
