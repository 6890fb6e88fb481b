"""[87], [95]: joined charters."""

from assentwhole.errors import BadPact, NotUsable
from assentwhole.joints import joined
from assentwhole.lones import lone_charters
from assentwhole.pactchecks import check_pact
from assentwhole.pactparts import step_stair
from assentwhole.routes import two_steps
from assentwhole.safechanges import safe_changes
from assentwhole.stairjoins import both_of
from tests.samples import DUO, LOTS, ONLY, PACT, ROW, Checks, some_pacts
from tests.test_lones import some_cases, told_suit

PAIR = (LOTS, "plain", "own", ((ROW,), ((ONLY, None, ONLY, ONLY, ONLY),)), ((1,), ()))


class JointTests(Checks):
    def test_examples(self):
        self.equal(joined(PAIR, 0, 1)[4], ((2,), (), (1,)))

    def told(self, pact, charter, other):
        """The joined pact by the words of [87]."""
        rows = []
        for kind in range(len(pact[3][0])):
            row = []
            for at, step in enumerate(("ask", "echo", "vote", "look", "hold")):
                if pact[3][charter][kind][at] is None:
                    row.append(None)
                else:
                    two = [step_stair(pact, c, kind, step) for c in (charter, other)]
                    row.append(("least", both_of(pact[0], *two)))
            rows.append(tuple(row))
        new = len(pact[3])
        changes = [set(followers) for followers in pact[4]] + [{other}]
        changes[charter] -= {other}
        changes[charter] |= {new}
        return pact[:3] + (pact[3] + (tuple(rows),), tuple(tuple(sorted(followers)) for followers in changes))

    def test_small_pacts(self):
        for pact in some_pacts(12, 87):
            many = len(pact[3])
            for charter in range(many):
                for other in range(many):
                    if charter != other:
                        found = joined(pact, charter, other)
                        self.equal(found, self.told(pact, charter, other))
                        self.equal(check_pact(found), many + 1)

    def test_it_suits_what_it_joins(self):
        # Where the two suit themselves the new one suits itself and both, and leads from one to the other.
        tried = 0
        for pact, wish in some_cases(88, 30):
            lone = lone_charters(pact, wish)
            for charter in lone:
                for other in lone:
                    if charter != other:
                        found = joined(pact, charter, other)
                        new = len(pact[3])
                        self.equal([told_suit(found, wish, new, c) for c in (new, charter, other)], [True] * 3)
                        self.equal(lone_charters(found, wish), lone + (new,))
                        if pact[2] == "own":
                            self.equal(two_steps(found, wish, charter, new), 1)
                            self.assertLessEqual({charter, other}, set(safe_changes(found, wish)[new]))
                        tried += 1
        self.assertGreater(tried, 10)

    def test_where_changes_were(self):
        rows = ((ROW,),) * 4
        pact = (LOTS, "plain", "calm", rows, ((1, 2), (0, 3), (), (1,)))
        self.equal(joined(pact, 0, 2)[4], ((1, 4), (0, 3), (), (1,), (2,)))
        self.equal(joined(pact, 1, 2)[4], ((1, 2), (0, 3, 4), (), (1,), (2,)))
        self.equal(joined(pact, 2, 0)[4], ((1, 2), (0, 3), (4,), (1,), (0,)))
        self.equal(joined(joined(pact, 0, 2), 0, 4)[4], ((1, 5), (0, 3), (), (1,), (2,), (4,)))
        # A charter that is not come to is joined, too.
        self.equal(joined(DUO[:4] + (((), ()),), 1, 0)[4], ((), (2,), (0,)))

    def test_wrong_ones(self):
        self.refused(BadPact(-1, "shape"), joined, None, None, None)
        for charter in (None, 2, True, -1, "1", (1,)):
            self.refused(NotUsable("charter"), joined, DUO, charter, None)
            self.refused(NotUsable("other"), joined, DUO, 0, charter)
        self.refused(NotUsable("other"), joined, DUO, 1, 1)
        self.refused(NotUsable("other"), joined, PACT, 0, 0)
