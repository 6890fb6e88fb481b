"""Courses that functions return: done in a new run and, house by house, in a slow one, and held to the limits."""

import itertools

from assentwhole.plainplays import play_plain
from assentwhole.swornplays import play_sworn
from tests.samples import RULES, Checks, sizes_of
from tests.slowruns import SlowPlain, SlowSworn, crowd_of_houses, houses_of

CROWD_PLACES = {
    "answer": 2, "take": 2, "store": 3, "return": 1, "tell": 2, "tellhead": 2, "forge": 2, "lay": 2, "echo": 4, "lock": 4,
    "telllie": 2,
}


def crowds_in(moves):
    return [move[CROWD_PLACES[move[0]]] for move in moves if move[0] in CROWD_PLACES]


def rolls_in(moves):
    return [move[3] for move in moves if move[0] in ("echo", "lock")] + [move[4] for move in moves if move[0] == "lay"]


def all_crowds(lots):
    """All crowds of small lots."""
    houses = [(lot, n) for lot, (_, size) in enumerate(lots) for n in range(size)]
    for many in range(len(houses) + 1):
        for some in itertools.combinations(houses, many):
            yield crowd_of_houses(lots, set(some))


class Courses(Checks):
    def within_limits(self, moves, most=100):
        """The moves are within the limits of [13] for moves that are returned."""
        self.assertIs(type(moves), tuple)
        self.assertLessEqual(len(moves), most)
        numbers = set()
        for crowd in crowds_in(moves):
            spans = [span for lot in crowd for span in lot]
            self.assertLessEqual(len(spans), 200)
            numbers |= {number for span in spans for number in span}
        self.assertLessEqual(len(numbers), 400)
        rolls = rolls_in(moves)
        self.assertLessEqual(max([len(roll) for roll in rolls], default=0), 60)
        self.assertLessEqual(sum(len(roll) for roll in rolls), 1200)

    def played(self, pact, liars, moves, slowly=True):
        """The new run of pact in which moves are done; small lots are played by a slow run, too."""
        self.within_limits(moves)
        plain = pact[1] == "plain"
        if plain:
            self.equal(liars, ((),) * len(pact[0]))
        run = play_plain(pact, moves) if plain else play_sworn(pact, liars, moves)
        if slowly and sum(sizes_of(pact[0])) < 10:
            slow = SlowPlain(pact) if plain else SlowSworn(pact, houses_of(liars))
            for move in moves:
                self.assertIsNone(slow.do(move), move)
            for name, wanted in slow.told().items():
                self.equal(getattr(run, name)(), wanted)
        return run


# Two houses; a trust that both are needed for, and two that one of them is in each.
A, B, AB = ("lot", 0, 1), ("lot", 1, 1), ("any", 2, (("lot", 0, 1), ("lot", 1, 1)))
TWO_LOTS = (("a", 1), ("b", 1))
NONE, JUST_A, JUST_B, EACH = ((), ()), (((0, 1),), ()), ((), ((0, 1),)), (((0, 1),), ((0, 1),))
GRAPHS = (
    ((),), ((1,), ()), ((1,), (0,)), ((1,), (2,), ()), ((1, 2), (), ()), ((1, 2), (2,), ()), ((1,), (2,), (0,)),
    ((1,), (2, 3), (), ()), ((1, 2), (3,), (3,), (0,)), ((1, 2, 3), (), (), ()), ((2,), (), (1,), (0,)),
)
STEPS = ("ask", "echo", "vote", "look", "hold")


def single_pact(manner, rule, changes, kinds, odd):
    """A pact of two houses whose trusts both are needed for, but for some odd ones {(step, charter, kind): trust}."""
    left_out = "echo" if manner == "plain" else "hold"
    rows = tuple(
        tuple(
            tuple(None if step == left_out else odd.get((step, charter, kind), AB) for step in STEPS)
            for kind in range(kinds)
        )
        for charter in range(len(changes))
    )
    return TWO_LOTS, manner, rule, rows, changes


def single_entry_pact(manner, rule, changes, kinds, entry):
    """A pact whose trusts share a house, but those of one entry."""
    step, c, a, d, b = entry
    if step == "echo" and c == d:
        return single_pact(manner, rule, changes, kinds, {("echo", c, a): ("any", 1, (A, B))})
    return single_pact(manner, rule, changes, kinds, {(step, c, a): A, ("ask" if step == "vote" else "echo", d, b): B})


def all_shapes(manners=("plain", "sworn")):
    """Each manner, rule and graph of changes, with a number of kinds."""
    for manner in manners:
        for rule in RULES:
            for changes in GRAPHS:
                yield manner, rule, changes, 2 if len(changes) < 3 else 1
