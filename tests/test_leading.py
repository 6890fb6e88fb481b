"""[71], [72], (G7): leading out of every state."""

from assentwhole.crowds import counts_of
from assentwhole.errors import BadCrowd, NotUsable
from assentwhole.leading import lead_out
from assentwhole.outwaking import outwakers
from assentwhole.plainplays import play_plain
from assentwhole.plainruns import Plain
from assentwhole.plans import plan_of
from assentwhole.rolls import follows
from assentwhole.stairs import stair_holds
from assentwhole.stretches import stretch
from assentwhole.swornplays import play_sworn
from assentwhole.swornruns import Sworn
from assentwhole.waking import wakers
from tests.playing import CROWD_PLACES, Courses, all_crowds, rolls_in
from tests.samples import BOTH, DUO, LOTS, PACT, ROW, SWORN, TWO
from tests.slowruns import best_of, charter, houses_of
from tests.slowtables import SlowTables
from tests.test_carrying import settled_rolls
from tests.test_plainruns import ALL, B, DEED, LEFT, ONE, RIGHT
from tests.test_plans import some_runs, state_of
from tests.test_swornruns import FAR, LAST, part

TEAM = (((1, 3),), ((0, 1),))
LATE = (LOTS, "plain", "bold", (((TWO, None, BOTH, TWO, TWO),), (ROW,)), ((1,), ()))


class LeadingTests(Courses):
    def led(self, run, slow, crowd, deed, out):
        """lead_out is right for these; out is whether crowd is in the outwakers. Whether there are moves."""
        base = best_of([slow.desk[place][1:3] for place in houses_of(crowd)])[1]
        ahead = state_of(run)
        moves = lead_out(run, crowd, deed)
        self.equal(moves is not None, out and follows(run.pact(), base))
        if moves is not None:
            self.within_limits(moves)
            rest = stretch(run, crowd)
            for move in moves:
                if move[0] in CROWD_PLACES:
                    self.equal(move[CROWD_PLACES[move[0]]], crowd)
                rest.do(move)
            self.assertTrue([1 for roll in settled_rolls(rest) if roll[:len(base)] == base and deed in roll[len(base):]])
            rolls = rolls_in(moves) + ([roll for _, _, roll in rest.rolls()] if isinstance(rest, Plain) else [])
            self.assertLessEqual(max(len(roll) for roll in rolls), len(base) + 60)
        self.equal(state_of(run), ahead)
        return moves is not None

    def test_examples(self):
        self.equal((lead_out(Plain(DUO), RIGHT, DEED) is None, lead_out(Plain(DUO), TEAM, DEED) is None), (True, False))
        run = Plain(LATE)
        self.equal((plan_of(run, RIGHT, DEED) is None, lead_out(run, RIGHT, DEED) is None), (True, False))

    def test_runs_at_random(self):
        found = {}
        for dice, run, slow, make in some_runs(171, 120, 2, 4):
            if not slow.up - slow.lying:
                continue
            pact = run.pact()
            tables = SlowTables(pact)
            stair = tables.stair(tables.outwakers())
            for _ in range(2):
                crowd = make.crowd(slow.up - slow.lying)
                deed = ("do", dice.randint(0, 3), 9, 0, 5)
                counts = counts_of(pact[0], crowd)
                moves = self.led(run, slow, crowd, deed, stair_holds(pact[0], stair, counts))
                key = pact[1], pact[2], moves
                found[key] = found.get(key, 0) + 1
                waker = stair_holds(pact[0], wakers(pact), counts)
                base = best_of([slow.desk[place][1:3] for place in houses_of(crowd)])[1]
                if waker and follows(pact, base):
                    self.assertTrue(moves)
                    self.assertIsNotNone(plan_of(run, crowd, deed))
                if pact[2] == "own" and not waker:
                    self.assertFalse(moves)
        self.assertEqual(len(found), 12)
        self.assertGreater(min(found.values()), 3)

    def all_led(self, pact, run, slow):
        """lead_out is right for all crowds; those that are led out without a plan, by their counts."""
        stair = outwakers(pact)
        found = set()
        for crowd in all_crowds(pact[0]):
            if any(crowd):
                counts = counts_of(pact[0], crowd)
                led = self.led(run, slow, crowd, DEED, stair_holds(pact[0], stair, counts))
                if led and plan_of(run, crowd, DEED) is None:
                    found.add(counts)
        return found

    def slow_of(self, run):
        """What a slow run would have on its desks."""
        class Desks:
            desk = {
                (lot, n): row[2:] for lot, rows in enumerate(run.desks()) for row in rows for n in range(row[0], row[1])
            }
        return Desks

    def test_by_calm_one_change_leads_out(self):
        late = (TWO, None, ("lot", 0, 3), TWO, TWO)
        pact = (LOTS, "plain", "calm", ((late,), (ROW,)), ((1,), ()))
        run = Plain(pact)
        self.equal(self.all_led(pact, run, self.slow_of(run)), {(2, 0), (2, 1)})
        run = play_plain(pact, ONE)
        self.equal(self.all_led(pact, run, self.slow_of(run)), {(2, 0), (2, 1)})
        # 0 behind a change: it has to be enough itself.
        back = (LOTS, "plain", "calm", ((late,), (ROW,)), ((1,), (0,)))
        run = Plain(back)
        self.equal(outwakers(back), ((3, 0),))
        self.equal(self.all_led(back, run, self.slow_of(run)), set())
        moves = lead_out(play_plain(pact, ONE[:3] + (("write", 1, ("change", 1)), ("store", 1, 2, LEFT))), LEFT, DEED)
        self.equal([move for move in moves if move[0] == "write"], [("write", 2, DEED)])

    def test_by_calm_a_second_reign_stays_where_it_begins(self):
        # Kind 0 alone begins at 0, and settles nowhere; kind 1 settles everywhere.
        low, high = ("lot", 0, 2), ("lot", 0, 3)

        def row(ask, vote):
            return (ask, None, vote, low, low)

        charters = ((row(low, high), row(high, low)),) + ((row(low, high), row(low, low)),) * 2
        pact = ((("a", 3),), "plain", "calm", charters, ((1, 2), (), ()))
        run = Plain(pact)
        self.equal(outwakers(pact), ((2,),))
        self.equal(self.all_led(pact, run, self.slow_of(run)), {(2,)})
        self.equal([move[1] for move in lead_out(run, (((0, 2),),), DEED) if move[0] == "take"], [2, 3])

    def test_changes_stand_only_where_the_rule_lets_them(self):
        # Kind 0 begins everywhere and settles at charter 1 alone, kind 1 at the others: by own, and by calm
        # behind a change, the reign that could settle behind a change is not the one that leads out.
        lots = (("a", 3),)
        low, high = ("lot", 0, 2), ("lot", 0, 3)

        def row(vote):
            return (low, None, vote, low, low)

        charters = ((row(high), row(low)), (row(low), row(high)), (row(high), row(low)))
        changes = ((1, 2), (0, 2), (1,))
        crowd = (((0, 2),),)
        for rule, kinds in (("own", {0: 1, 1: 0, 2: 1}), ("calm", {0: 1, 1: 0, 2: 1}), ("bold", {0: 0, 1: 0, 2: 0})):
            pact = (lots, "plain", rule, charters, changes)
            everyone = (((0, 3),),)
            start = (("answer", 1, everyone), ("take", 1, everyone, None), ("store", 1, 0, everyone))
            for last, route in ((0, ()), (1, (1,)), (2, (2,)), (0, (1, 0)), (2, (1, 2))):
                moves = start
                for at, charter_there in enumerate(route):
                    moves += (("write", 1, ("change", charter_there)), ("store", 1, at + 1, everyone))
                run = play_plain(pact, moves)
                self.assertTrue(self.led(run, self.slow_of(run), crowd, DEED, stair_holds(lots, outwakers(pact), (2,))))
                reign = lead_out(run, crowd, DEED)[0][1]
                if rule == "own" or route:
                    self.equal(reign % 2, kinds[last])

    def test_by_bold_several_reigns_lead_out(self):
        # Reigns of kind 0 alone begin at charter 0, and those of kind 1 alone settle, at the last charter.
        lots = (("a", 6),)

        def row(ask, vote):
            trust = ("lot", 0, 1)
            return (("lot", 0, ask), None, ("lot", 0, vote), trust, trust)

        charters = (
            (row(2, 6), row(6, 6)), (row(6, 6), row(2, 6)), (row(2, 6), row(6, 6)), (row(6, 6), row(2, 6)),
            (row(6, 6), row(2, 6)), (row(2, 6), row(6, 2)),
        )
        changes = ((1,), (2,), (3,), (4,), (5,), (1,))
        for rule, stair in (("bold", ((2,),)), ("own", ((6,),)), ("calm", ((6,),))):
            pact = (lots, "plain", rule, charters, changes)
            self.equal(outwakers(pact), stair)
        pact = (lots, "plain", "bold", charters, changes)
        run = Plain(pact)
        self.equal(self.all_led(pact, run, self.slow_of(run)), {(2,), (3,), (4,), (5,)})
        sworn = tuple(tuple((one[0], one[0], one[2], one[3], None) for one in rows) for rows in charters)
        pact = (lots, "sworn", "bold", sworn, changes)
        self.equal(outwakers(pact), ((2,),))
        run = Sworn(pact, ((),))
        self.equal(self.all_led(pact, run, self.slow_of(run)), {(2,), (3,), (4,), (5,)})
        moves = lead_out(run, (((2, 4),),), DEED)
        self.equal([move[1] for move in moves if move[0] == "lay"], [2, 3])

    def test_a_roll_that_does_not_follow(self):
        # Liars alone may echo changes that no rule lets: what then is locked does not follow.
        trust = ("lot", 0, 2)
        row = (trust, trust, trust, trust, None)
        pact = (SWORN[0], "sworn", "bold", ((row,), (row,)), ((), ()))
        liars, crowd = (((0, 2),),), (((2, 4),),)
        odd = (("change", 1),)
        moves = (("answer", 1, crowd), ("lay", 1, crowd, None, ()), ("echo", 1, (), odd, liars), ("lock", 1, (), odd, crowd))
        run = play_sworn(pact, liars, moves)
        self.equal(outwakers(pact), ((2,),))
        self.equal(lead_out(run, crowd, DEED), None)
        longer = (("change", 1), DEED)
        run = play_sworn(pact, liars, moves[:2] + (("echo", 1, (), longer, liars), ("lock", 1, (), longer, crowd)))
        self.equal(lead_out(run, crowd, DEED), None)
        self.assertIsNotNone(plan_of(run, crowd, DEED))
        self.assertIsNotNone(lead_out(Sworn(pact, liars), crowd, DEED))

    def test_in_a_stretch_of_a_stretch(self):
        run = play_plain(LATE, ONE)
        rest = stretch(run, RIGHT)
        for move in lead_out(rest, RIGHT, DEED):
            rest.do(move)
        self.assertTrue(settled_rolls(rest))
        again = lead_out(rest, RIGHT, ("do", 7, 1, 0, 0))
        self.assertNotIn(again[0][1], [move[1] for move in rest.moves()])
        self.equal(charter(settled_rolls(rest)[-1]), 1)

    def test_long_rolls(self):
        run = Plain(LATE)
        deeds = tuple(("write", 1, ("do", 0, at + 1, 0, 0)) for at in range(60))
        for move in (("answer", 1, ALL), ("take", 1, ALL, None)) + deeds + (("store", 1, 60, ALL),):
            run.do(move)
        rest = stretch(run, RIGHT)
        for move in lead_out(rest, RIGHT, DEED):
            rest.do(move)
        self.equal(len(settled_rolls(rest)[-1]), 62)
        run.do(("answer", 10 ** 6, ALL))
        for move in lead_out(run, RIGHT, DEED):
            run.do(move)

    def test_huge_lots(self):
        size = 10 ** 12
        most = ("lot", 0, size // 2 + 1)
        row, late = (most, None, most, most, most), (most, None, ("lot", 0, size), most, most)
        pact = ((("a", size),), "plain", "bold", ((late,), (row,)), ((1,), ()))
        spans = tuple((n * 5 * 10 ** 9, n * 5 * 10 ** 9 + 3 * 10 ** 9) for n in range(200))
        self.assertIsNotNone(lead_out(Plain(pact), (spans,), DEED))
        self.assertIsNone(lead_out(Plain(pact), (spans[:160],), DEED))

    def test_wrong_ones(self):
        run, vow = Plain(PACT), Sworn(SWORN, LAST)
        rest = stretch(run, LEFT)
        for thing in (None, PACT, (), Plain, [run]):
            self.refused(NotUsable("run"), lead_out, thing, None, None)
        self.refused(BadCrowd(-1), lead_out, run, None, None)
        self.refused(BadCrowd(0), lead_out, run, ([], ()), None)
        self.refused(NotUsable("crowd"), lead_out, run, ((), ()), None)
        self.refused(NotUsable("crowd"), lead_out, rest, ALL, None)
        self.refused(NotUsable("crowd"), lead_out, vow, FAR, None)
        self.refused(NotUsable("crowd"), lead_out, stretch(vow, part(0, 2)), part(1, 3), None)
        for thing in (None, (), ("change", 0), list(DEED), ("do", 0, True, 0, 0), ("do", 0, 0, 0, 0), 5):
            self.refused(NotUsable("deed"), lead_out, run, LEFT, thing)
            self.refused(NotUsable("deed"), lead_out, run, B, thing)
        self.equal(run.moves(), ())
