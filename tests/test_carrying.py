"""[70], [72]: carrying to a charter, and along a route."""

from assentwhole.carriage import carriers
from assentwhole.carrying import carry, carry_to
from assentwhole.crowds import counts_of
from assentwhole.errors import BadCrowd, NotFor, NotUsable
from assentwhole.plainplays import play_plain
from assentwhole.plainruns import Plain
from assentwhole.plans import plan_of
from assentwhole.rolls import charter_of
from assentwhole.splitting import splitters
from assentwhole.stairs import stair_holds
from assentwhole.stretches import stretch
from assentwhole.swornruns import Sworn
from assentwhole.waking import enough, wakers
from tests.samples import DUO, LOTS, PACT, ROW, RULES, SWORN, Checks
from tests.slowruns import best_of, houses_of
from tests.test_plainruns import ALL, B, DEED, LEFT, ONE, RIGHT, house
from tests.test_plans import some_runs, state_of
from tests.test_swornruns import FAR, LAST, part

TEAM = (((1, 3),), ((0, 1),))
TO_1 = ("change", 1)


def settled_rolls(run):
    if isinstance(run, Sworn):
        return [roll for _, roll in run.settled()]
    return [roll[:m] for r, m in run.settled() for s, _, roll in run.rolls() if r == s]


def base_of(slow, crowd):
    return best_of([slow.desk[place][1:3] for place in houses_of(crowd)])[1]


class CarryingTests(Checks):
    def done(self, run, crowd, moves):
        """The stretch of crowd in which moves are done."""
        ahead = state_of(run)
        self.assertLessEqual(len(moves), 100)
        rest = stretch(run, crowd)
        places = {"answer": 2, "take": 2, "store": 3, "lay": 2, "echo": 4, "lock": 4}
        for move in moves:
            if move[0] in places:
                self.equal(move[places[move[0]]], crowd)
            rest.do(move)
        self.equal(state_of(run), ahead)
        return rest

    def carried(self, run, slow, crowd, charter):
        """carry_to is right for these; whether there are moves."""
        base = base_of(slow, crowd)
        pact = run.pact()
        moves = carry_to(run, crowd, charter)
        can = stair_holds(pact[0], carriers(pact, charter_of(pact, base), charter), counts_of(pact[0], crowd))
        self.equal(moves is not None, can)
        if moves is not None:
            rest = self.done(run, crowd, moves)
            self.assertTrue([1 for roll in settled_rolls(rest) if charter_of(pact, roll) == charter])
            self.short(rest, base)
        return can

    def short(self, rest, base):
        """No roll in the moves or reigns has more than 60 deeds more than base."""
        rolls = [move[3] for move in rest.moves() if move[0] in ("echo", "lock")]
        rolls += [roll for _, _, roll in rest.rolls()] if isinstance(rest, Plain) else []
        self.assertLessEqual(max([len(roll) for roll in rolls], default=0), len(base) + 60)

    def led(self, run, slow, crowd, route):
        """carry is right for these; whether there are moves."""
        base = base_of(slow, crowd)
        pact = run.pact()
        moves = carry(run, crowd, route)
        kinds = range(len(pact[3][0]))
        can = all(
            any(stair_holds(pact[0], enough(pact, d, b), counts_of(pact[0], crowd)) for b in kinds) for d in route
        )
        self.equal(moves is not None, can)
        if moves is not None:
            rest = self.done(run, crowd, moves)
            wanted = tuple(("change", d) for d in route[1:])
            found = [
                roll for roll in settled_rolls(rest)
                if roll[:len(base)] == base and tuple(deed for deed in roll[len(base):] if deed[0] == "change") == wanted
            ]
            self.assertTrue(found)
            self.short(rest, base)
        return can

    def test_examples(self):
        self.equal((carry_to(Plain(DUO), RIGHT, 1) is None, carry_to(Plain(DUO), RIGHT, 0) is None), (True, False))
        there = play_plain(DUO, carry_to(Plain(DUO), TEAM, 1))
        self.equal((there.settled() == (), there.parted()), (False, None))
        self.equal((carry(Plain(DUO), TEAM, (0, 1)) is None, carry(Plain(DUO), RIGHT, (0, 1)) is None), (False, True))
        self.refused(NotUsable("route"), carry, Plain(DUO), TEAM, (1,))
        self.refused(NotFor("rule"), carry_to, Plain((LOTS, "plain", "bold", ((ROW,),), ((),))), TEAM, 0)

    def routes(self, dice, pact, start, most=12):
        """Some routes from start, one of a single charter among them."""
        yield (start,)
        for _ in range(3):
            route = [start]
            while len(route) < most and pact[4][route[-1]] and dice.random() < 0.8:
                route.append(dice.choice(pact[4][route[-1]]))
            yield tuple(route)

    def test_runs_at_random(self):
        carried = led = 0
        for dice, run, slow, make in some_runs(70, 160, 2, 4):
            if not slow.up - slow.lying:
                continue
            pact = run.pact()
            for _ in range(2):
                crowd = make.crowd(slow.up - slow.lying)
                start = charter_of(pact, base_of(slow, crowd))
                if pact[2] == "own":
                    for charter in range(len(pact[3])):
                        carried += self.carried(run, slow, crowd, charter)
                for route in self.routes(dice, pact, start):
                    led += self.led(run, slow, crowd, route)
                self.consequences(run, crowd, start)
        self.assertGreater(min(carried, led), 100)

    def consequences(self, run, crowd, start):
        """[72]: plans are where routes of one charter are, and for all wakers."""
        pact = run.pact()
        plan = plan_of(run, crowd, DEED)
        self.equal(carry(run, crowd, (start,)) is None, plan is None)
        if pact[2] == "own":
            self.equal(carry_to(run, crowd, start) is None, plan is None)
        sound = isinstance(run, Plain) or not stair_holds(pact[0], splitters(pact), counts_of(pact[0], run.liars()))
        if sound and stair_holds(pact[0], wakers(pact), counts_of(pact[0], crowd)):
            self.assertIsNotNone(plan)

    def test_by_own_the_end_of_a_route_can_be_carried_to(self):
        for dice, run, slow, make in some_runs(71, 60, 2, 4):
            pact = run.pact()
            if pact[2] != "own" or not slow.up - slow.lying:
                continue
            crowd = make.crowd(slow.up - slow.lying)
            for route in self.routes(dice, pact, charter_of(pact, base_of(slow, crowd))):
                if carry(run, crowd, route) is not None:
                    self.assertIsNotNone(carry_to(run, crowd, route[-1]))

    def test_a_long_route(self):
        for rule in RULES:
            for manner, row in (("plain", ROW), ("sworn", ROW[:1] + (ROW[0],) + ROW[2:4] + (None,))):
                pact = (LOTS, manner, rule, ((row,) * 3,) * 3, ((1,), (2,), (0,)))
                run = Plain(pact) if manner == "plain" else Sworn(pact, ((), ()))
                route = (0, 1, 2) * 4
                moves = carry(run, LEFT, route)
                rest = self.done(run, LEFT, moves)
                wanted = tuple(("change", d) for d in route[1:])
                self.assertIn(wanted, [tuple(d for d in roll if d[0] == "change") for roll in settled_rolls(rest)])

    def test_by_reigns_of_several_kinds(self):
        # On from 0 to 3 only by new reigns: each charter suffices for one kind alone.
        def row(most):
            trust = ("lot", 0, most)
            return (trust, None, trust, ("lot", 0, 1), ("lot", 0, 1))

        lots = (("a", 6),)
        charters = ((row(2), row(6)), (row(6), row(2)), (row(6), row(6)), (row(2), row(6)))
        pact = (lots, "plain", "own", charters, ((1, 2), (3,), (3,), ()))
        run = Plain(pact)
        crowd = (((0, 2),),)
        self.equal(carriers(pact, 0, 3), ((2,),))
        rest = self.done(run, crowd, carry_to(run, crowd, 3))
        self.equal([charter_of(pact, roll) for roll in settled_rolls(rest)][-1], 3)
        self.assertIsNone(carry_to(run, crowd, 2))
        # A deed more, and on by the same kind: no new reign is needed.
        charters = ((row(2),), ((("lot", 0, 6), None, ("lot", 0, 2), ("lot", 0, 1), ("lot", 0, 1)),))
        pact = (lots, "plain", "own", charters, ((1,), ()))
        run = Plain(pact)
        self.assertIsNotNone(carry_to(run, crowd, 1))
        self.assertIsNone(carry(run, crowd, (0, 1)))
        self.done(run, crowd, carry_to(run, crowd, 1))

    def test_at_the_limits(self):
        row = ROW[:1] + (ROW[0],) + ROW[2:4] + (None,)
        other = (("lot", 0, 3),) * 4 + (None,)
        charters = ((row, other, other), (other, row, other), (other, other, row)) * 2
        changes = ((1,), (2,), (3,), (4,), (5,), (0,))
        run = Sworn((LOTS, "sworn", "own", charters, changes), ((), ()))
        for charter in range(6):
            rest = self.done(run, LEFT, carry_to(run, LEFT, charter))
            self.assertTrue([1 for roll in settled_rolls(rest) if charter_of(run.pact(), roll) == charter])

    def test_behind_other_charters(self):
        run = play_plain(DUO, ONE + (("write", 1, TO_1), ("store", 1, 2, house(0))))
        self.assertIsNone(carry_to(run, LEFT, 1))
        self.assertIsNone(carry_to(run, ALL, 0))
        self.assertIsNotNone(carry_to(run, ALL, 1))
        self.refused(NotUsable("route"), carry, run, LEFT, (0,))
        self.assertIsNone(carry(run, LEFT, (1,)))
        self.assertIsNotNone(carry(run, ALL, (1,)))
        self.assertIsNotNone(carry(run, RIGHT, (0,)))

    def test_wrong_ones(self):
        run, vow = Plain(DUO), Sworn(SWORN, LAST)
        bold = Plain(DUO[:2] + ("bold",) + DUO[3:])
        for call in (carry_to, carry):
            for thing in (None, DUO, (), "run"):
                self.refused(NotUsable("run"), call, thing, None, None)
            self.refused(BadCrowd(-1), call, run, None, None)
            self.refused(NotUsable("crowd"), call, run, ((), ()), None)
            self.refused(NotUsable("crowd"), call, vow, FAR, None)
            self.refused(NotUsable("crowd"), call, stretch(run, LEFT), ALL, None)
            self.refused(NotUsable("crowd"), call, stretch(vow, part(0, 2)), part(1, 3), None)
        for thing in (None, 2, -1, True, "1", (1,)):
            self.refused(NotUsable("charter"), carry_to, run, B, thing)
            self.refused(NotUsable("charter"), carry_to, bold, B, thing)
        for rule in ("calm", "bold"):
            self.refused(NotFor("rule"), carry_to, Plain(PACT[:2] + (rule,) + PACT[3:]), B, 0)
        for thing in (
            None, (), [0], 0, (1,), (0, 0), (0, 2), (0, 1, 0), (False,), (0, True), ("0",), (0, None), (-1,), (0, (1,)), (2,),
        ):
            self.refused(NotUsable("route"), carry, run, B, thing)
            self.refused(NotUsable("route"), carry, bold, ALL, thing)
