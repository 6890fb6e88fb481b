"""[89], (G12): routes over lone charters, and how many steps there are by a joined one."""

import itertools

from assentwhole.errors import BadPact, NotFor, NotUsable
from assentwhole.joints import joined
from assentwhole.lones import lone_charters
from assentwhole.routes import route_of, two_steps
from tests.samples import DUO, LOTS, ONLY, PACT, Checks
from tests.test_joints import PAIR
from tests.test_lones import WRONG_WISHES, some_cases, told_suit
from tests.test_sufficing import SOME, WISH


def told_route(pact, wish, charter, other):
    """The shortest route, the first of several, by all sequences of charters."""
    lone = [c for c in range(len(pact[3])) if told_suit(pact, wish, c, c)]
    for many in range(1, len(lone) + 1):
        found = [
            row for row in itertools.permutations(lone, many)
            if row[0] == charter and row[-1] == other and all(told_suit(pact, wish, c, d) for c, d in zip(row, row[1:]))
        ]
        if found:
            return min(found)
    return None


class RouteTests(Checks):
    def test_examples(self):
        self.equal((two_steps(PAIR, WISH, 0, 1), route_of(PAIR, WISH, 0, 1), route_of(PAIR, WISH, 1, 1)), (2, None, (1,)))
        self.equal(route_of(joined(PAIR, 0, 1), WISH, 0, 1), (0, 2, 1))

    def test_small_pacts(self):
        found = {}
        for pact, wish in some_cases(89, 40):
            if pact[2] != "own":
                continue
            lone = lone_charters(pact, wish)
            for c in range(len(pact[3])):
                for d in range(len(pact[3])):
                    route = route_of(pact, wish, c, d)
                    self.equal(route, told_route(pact, wish, c, d))
                    found[None if route is None else len(route)] = found.get(None if route is None else len(route), 0) + 1
                    if c != d:
                        steps = two_steps(pact, wish, c, d)
                        told = None if c not in lone or d not in lone else 1 if told_suit(pact, wish, c, d) else 2
                        self.equal(steps, told)
                        if steps is not None:
                            self.assertIsNotNone(route_of(joined(pact, c, d), wish, c, d))
        self.assertLessEqual({None, 1, 2}, set(found))

    def suiting_pact(self, links, many):
        """A pact whose charters ask for their own house, and those of the charters that they are linked with."""
        lots = tuple((f"h{c}", 1) for c in range(many)) + (("z", 1),)
        rows = []
        for charter in range(many):
            near = [other for other in range(many) if other != charter and (min(charter, other), max(charter, other)) in links]
            parts = tuple(("lot", other, 1) for other in sorted(near + [charter]))
            trust = ("any", len(parts), parts)
            rows.append(((trust, None, trust, trust, trust),))
        return lots, "plain", "own", tuple(rows), ((),) * many

    def test_longer_routes(self):
        # Each charter asks for its own house and those of its neighbours: linked ones, and such that are
        # linked with one and the same, share a house.
        wish = ("any", 1, tuple(("lot", at, 1) for at in range(7)))
        chain = self.suiting_pact({(0, 1), (1, 2), (2, 3), (3, 4), (4, 5)}, 6)
        for c in range(6):
            for d in range(6):
                self.equal(route_of(chain, wish, c, d), told_route(chain, wish, c, d))
        self.equal(route_of(chain, wish, 0, 5), (0, 1, 3, 5))
        self.equal(route_of(chain, wish, 5, 0), (5, 3, 1, 0))
        ring = self.suiting_pact({(0, 3), (3, 5), (1, 5), (0, 2), (2, 4), (1, 4)}, 6)
        for c in range(6):
            for d in range(6):
                self.equal(route_of(ring, wish, c, d), told_route(ring, wish, c, d))
        # Where one on the way does not suit itself there is none by it.
        odd = ("any", 1, (("lot", 2, 1), ("lot", 3, 1)))
        rows = chain[3][:2] + (((odd, None, odd, odd, odd),),) + chain[3][3:]
        broken = chain[:3] + (rows, chain[4])
        self.equal(lone_charters(broken, wish), (0, 1, 3, 4, 5))
        for c in range(6):
            for d in range(6):
                self.equal(route_of(broken, wish, c, d), told_route(broken, wish, c, d))
                if c != d:
                    told = None if 2 in (c, d) else 1 if told_suit(broken, wish, c, d) else 2
                    self.equal(two_steps(broken, wish, c, d), told)

    def test_the_first_of_several(self):
        # From 0 to 1 by 2, 3, 4 or 5; none but these suit both.
        lots = tuple((f"h{at}", 1) for at in range(3))
        left, right, both = ("lot", 0, 1), ("lot", 1, 1), ("any", 2, (("lot", 0, 1), ("lot", 1, 1)))
        wish = ("any", 1, tuple(("lot", at, 1) for at in range(3)))
        rows = tuple(((trust, None, trust, trust, trust),) for trust in (left, right, both, both, both, both))
        pact = (lots, "plain", "own", rows, ((),) * 6)
        self.equal((route_of(pact, wish, 0, 1), route_of(pact, wish, 1, 0)), ((0, 2, 1), (1, 2, 0)))
        rows = rows[:2] + (rows[0], rows[5], rows[1], rows[5])
        pact = (lots, "plain", "own", rows, ((),) * 6)
        self.equal(route_of(pact, wish, 0, 1), (0, 3, 1))

    def test_charters_that_do_not_suit_themselves(self):
        loose = ("any", 1, (ONLY, ("lot", 0, 2)))
        pact = (LOTS, "plain", "own", PAIR[3] + (((loose, None, loose, loose, loose),),), ((), (), ()))
        self.equal(lone_charters(pact, WISH), (0, 1))
        for c, d in ((2, 0), (0, 2), (2, 2), (1, 2)):
            self.equal(route_of(pact, WISH, c, d), None)
            if c != d:
                self.equal(two_steps(pact, WISH, c, d), None)

    def test_wrong_ones(self):
        calm = DUO[:2] + ("calm",) + DUO[3:]
        for call in (route_of, two_steps):
            self.refused(BadPact(-1, "shape"), call, None, None, None, None)
            for pact in (DUO, calm):
                for wish, error in WRONG_WISHES:
                    self.refused(error, call, pact, wish, None, None)
                for charter in (None, 2, True, -1, "1", (1,)):
                    self.refused(NotUsable("charter"), call, pact, SOME, charter, None)
                    self.refused(NotUsable("other"), call, pact, SOME, 0, charter)
            for rule in ("calm", "bold"):
                self.refused(NotFor("rule"), call, DUO[:2] + (rule,) + DUO[3:], SOME, 0, 1)
        self.refused(NotUsable("other"), two_steps, calm, SOME, 1, 1)
        self.refused(NotUsable("other"), two_steps, PACT, SOME, 0, 0)
        self.equal(route_of(PACT, SOME, 0, 0), (0,))
