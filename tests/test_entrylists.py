"""[48], [10]: entries and their stairs."""

from assentwhole.entrylists import entries_of, entry_stair
from assentwhole.errors import BadPact, NotUsable
from assentwhole.pairings import pairs_of
from tests.samples import DUO, LOTS, PACT, ROW, SWORN, Checks, Houses, some_pacts

STEPS = ("ask", "echo", "vote", "look", "hold")


def told_entries(pact):
    kinds = range(len(pact[3][0]))
    found = []
    for c, d in pairs_of(pact):
        found += [("vote", c, a, d, b) for a in kinds for b in kinds]
        if pact[1] == "sworn":
            found += [("echo", c, a, d, a) for a in kinds]
    return tuple(found)


def trusts_of(pact, entry):
    word, c, a, d, b = entry
    rows = pact[3]
    if word == "vote":
        return rows[c][a][2], rows[d][b][0]
    return rows[c][a][1], rows[d][b][1]


class EntryTests(Checks):
    def test_examples(self):
        self.equal(entries_of(SWORN), (("vote", 0, 0, 0, 0), ("echo", 0, 0, 0, 0)))
        self.equal((entry_stair(DUO, ("vote", 0, 0, 1, 0)), entry_stair(DUO, ("vote", 1, 0, 1, 0))), (((1, 0),), ((1, 1),)))

    def test_sequence(self):
        pact = (LOTS, "plain", "own", ((ROW, ROW), (ROW, ROW)), ((1,), ()))
        wanted = tuple(
            ("vote", c, a, d, b) for c, d in ((0, 0), (0, 1), (1, 0), (1, 1)) for a in range(2) for b in range(2)
        )
        self.equal(entries_of(pact), wanted)
        for sworn in some_pacts(30, 48, LOTS):
            self.equal(entries_of(sworn), told_entries(sworn))

    def test_stairs_against_all_crowds(self):
        for pact in some_pacts(5, 49):
            houses = Houses(pact[0])
            for entry in entries_of(pact):
                one, two = [houses.in_trust(trust) for trust in trusts_of(pact, entry)]
                self.equal(entry_stair(pact, entry), houses.stair(houses.common(one, two)))

    def test_what_is_no_entry(self):
        for thing in (
            None, (), ("vote", 0, 0, 0), ("vote", 0, 0, 0, 0, 0), ["vote", 0, 0, 0, 0], ("echo", 0, 0, 0, 0), ("ask", 0, 0, 0, 0),
            ("vote", 0, 0, 1, 0), ("vote", 0, 1, 0, 0), ("vote", False, 0, 0, 0), ("vote", 0, False, 0, 0), ("vote", 0, 0, False, 0),
            ("vote", 0, 0, 0, False), ("vote", 0, 0, 0, None), ("vote", "0", 0, 0, 0), ("vote", -1, 0, 0, 0), "vote0", 0,
            ("vote", (0,), 0, 0, 0), (True, 0, 0, 0, 0),
        ):
            self.refused(NotUsable("entry"), entry_stair, PACT, thing)
        self.refused(NotUsable("entry"), entry_stair, DUO, ("vote", 0, 0, True, 0))
        self.refused(NotUsable("entry"), entry_stair, (LOTS, "plain", "own", ((ROW,), (ROW,)), ((), ())), ("vote", 0, 0, 1, 0))
        two_kinds = (SWORN[0], "sworn", "own", (SWORN[3][0] * 2,), ((),))
        self.refused(NotUsable("entry"), entry_stair, two_kinds, ("echo", 0, 0, 0, 1))
        self.equal(entry_stair(two_kinds, ("echo", 0, 1, 0, 1)), ((2,),))
        self.refused(BadPact(-1, "shape"), entry_stair, None, None)
