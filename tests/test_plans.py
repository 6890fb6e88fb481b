"""[68], [69], [72]: plans, and serving by them."""

import random

from assentwhole.crowds import counts_of
from assentwhole.errors import BadCrowd, NotUsable
from assentwhole.plainplays import play_plain
from assentwhole.plainruns import Plain
from assentwhole.plans import plan_of
from assentwhole.serving import serve
from assentwhole.stairs import stair_holds
from assentwhole.stretches import stretch
from assentwhole.swornplays import play_sworn
from assentwhole.swornruns import Sworn
from assentwhole.waking import enough
from tests.samples import DUO, LOTS, ONLY, PACT, ROW, RULES, SWORN, Checks, random_pact
from tests.slowruns import Moves, SlowPlain, SlowSworn, best_of, charter, crowd_of_houses, houses_of
from tests.test_plainruns import ALL, B, DEED, LEFT, ONE, RIGHT, house, seen
from tests.test_swornruns import FAR, LAST, NEAR, NOBODY, agreed, begun, part
from tests.test_swornruns import seen as sworn_seen

NEXT = ("do", 0, 2, 0, 3)
LOTS_TRIED = ((("a", 3),), (("a", 2), ("b", 1)), (("a", 4),), (("a", 2), ("b", 2)))


def state_of(run):
    return seen(run) if isinstance(run, Plain) else sworn_seen(run)


def some_runs(seed, many, kinds=2, charters=3, stretches=True):
    """Runs at random, plain and sworn, some of them stretches, each with its slow one."""
    dice = random.Random(seed)
    for at in range(many):
        lots = LOTS_TRIED[at % 4]
        manner = ("plain", "sworn")[at // 4 % 2]
        pact = random_pact(dice, lots, manner, RULES[at % 3], dice.randint(1, charters), dice.randint(1, kinds), dice.randint(1, 2))
        houses = [(lot, n) for lot, (_, size) in enumerate(lots) for n in range(size)]
        liars = dice.sample(houses, dice.choice((0, 0, 1))) if manner == "sworn" else []
        make = Moves(dice, pact, 4)
        slow = SlowPlain(pact) if manner == "plain" else SlowSworn(pact, liars)
        run = Plain(pact) if manner == "plain" else Sworn(pact, crowd_of_houses(lots, liars))
        for part_of in range(dice.choice((1, 1, 2)) if stretches else 1):
            if part_of and slow.up - slow.lying:
                crowd = make.crowd(slow.up - slow.lying)
                run, slow = stretch(run, crowd), slow.stretch(crowd)
            for _ in range(60):
                move = make.plain(slow) if manner == "plain" else make.sworn(slow)
                if slow.do(move) is None:
                    run.do(move)
        yield dice, run, slow, make


def told_plan(run, slow, crowd, deed):
    """The plan, from the words of the document and a slow run."""
    pact, lots = slow.pact, slow.lots
    desks = [slow.desk[house] for house in houses_of(crowd)]
    base = best_of([desk[1:3] for desk in desks])[1]
    kinds = range(len(pact[3][0]))
    fit = [b for b in kinds if stair_holds(lots, enough(pact, charter(base), b), counts_of(lots, crowd))]
    if not fit:
        return None
    r = max(desk[0] for desk in desks) + 1
    while slow.kind(r) != fit[0] or r in slow.used() or r in slow.gone:
        r += 1
    roll = base + (deed,)
    if pact[1] == "plain":
        return ("answer", r, crowd), ("take", r, crowd, None), ("write", r, deed), ("store", r, len(roll), crowd)
    return ("answer", r, crowd), ("lay", r, crowd, None, base), ("echo", r, base, roll, crowd), ("lock", r, base, roll, crowd)


class PlanTests(Checks):
    def test_examples(self):
        run = play_plain(PACT, ONE)
        wanted = (("take", 2, RIGHT, None), ("write", 2, NEXT), ("store", 2, 2, RIGHT))
        self.equal(plan_of(run, RIGHT, NEXT), (("answer", 2, RIGHT),) + wanted)
        self.assertIsNone(plan_of(run, (((1, 2),), ((0, 1),)), NEXT))
        wanted = (("lay", 1, FAR, None, ()), ("echo", 1, (), (NEXT,), FAR))
        self.equal(plan_of(Sworn(SWORN, ((),)), FAR, NEXT)[1:3], wanted)
        self.equal((serve(run, RIGHT, NEXT), run.settled()), (True, ((1, 0), (1, 1), (2, 1), (2, 2))))

    def test_the_reign(self):
        run = play_plain(PACT, ONE + (("answer", 3, house(2)), ("answer", 4, LEFT), ("take", 4, LEFT, None)))
        self.equal(plan_of(run, (((0, 3),), ()), NEXT)[0], ("answer", 5, (((0, 3),), ())))
        self.equal(plan_of(run, LEFT, NEXT)[0], ("answer", 5, LEFT))
        back = play_plain(PACT, run.moves() + (("return", LEFT, 0),))
        self.equal(plan_of(back, LEFT, NEXT)[0], ("answer", 2, LEFT))
        self.equal(plan_of(back, RIGHT, NEXT)[0], ("answer", 5, RIGHT))
        rest = stretch(back, LEFT)
        self.equal(plan_of(rest, LEFT, NEXT)[0], ("answer", 2, LEFT))
        self.assertTrue(serve(rest, LEFT, NEXT))
        self.equal(plan_of(rest, LEFT, NEXT)[0], ("answer", 3, LEFT))
        self.equal(plan_of(stretch(rest, LEFT), LEFT, NEXT)[0], ("answer", 3, LEFT))

    def test_the_kind(self):
        only = (ONLY, None, ONLY, ONLY, ONLY)
        run = Plain((LOTS, "plain", "own", ((ROW, ROW, only),), ((),)))
        self.equal([plan_of(run, crowd, NEXT)[0][1] for crowd in (LEFT, B, ALL)], [3, 2, 3])
        run.do(("answer", 4, B))
        self.equal([plan_of(run, crowd, NEXT)[0][1] for crowd in (LEFT, B, ALL)], [3, 5, 6])
        run.do(("answer", 5, B))
        run.do(("take", 5, B, None))
        self.equal(plan_of(play_plain(run.pact(), run.moves() + (("return", B, 0),)), B, NEXT)[0][1], 2)

    def test_the_best_desk_decides(self):
        moves = (("write", 1, ("change", 1)), ("store", 1, 2, house(0)))
        run = play_plain(DUO, ONE + moves)
        self.assertIsNone(plan_of(run, LEFT, NEXT))
        self.equal(plan_of(run, RIGHT, NEXT)[3], ("store", 2, 2, RIGHT))
        self.equal(plan_of(run, ALL, NEXT)[3], ("store", 2, 3, ALL))

    def test_the_least_roll_of_locks(self):
        # Two houses have unlike locks of one reign and one length: the lesser one is the base.
        liars, other = part(2, 4), ("do", 1, 1, 0, 7)
        row = (("lot", 0, 2), ("lot", 0, 2), ("lot", 0, 2), ("lot", 0, 2), None)
        run = Sworn(SWORN[:3] + (((row,),), ((),)), liars)
        for move in (("answer", 1, part(0, 2)), ("lay", 1, part(0, 2), None, ()), ("echo", 1, (), (other,), (((0, 1), (2, 3)),))):
            run.do(move)
        for move in (("echo", 1, (), (DEED,), (((1, 3),),)), ("lock", 1, (), (other,), part(0, 1)), ("lock", 1, (), (DEED,), part(1, 2))):
            run.do(move)
        plan = plan_of(run, part(0, 2), NEXT)
        self.equal(plan[1:3], (("lay", 2, part(0, 2), None, (DEED,)), ("echo", 2, (DEED,), (DEED, NEXT), part(0, 2))))
        self.assertTrue(serve(run, part(0, 2), NEXT))

    def test_serve(self):
        run = play_plain(DUO, ONE)
        ahead = seen(run)
        self.assertIs(serve(run, B, NEXT), False)
        self.equal(seen(run), ahead)
        plan = plan_of(run, ALL, NEXT)
        self.assertIs(serve(run, ALL, NEXT), True)
        self.equal(run.moves(), ONE + plan)
        vow = play_sworn(SWORN, LAST, begun(NEAR) + agreed((DEED,), NEAR))
        plan = plan_of(vow, NEAR, NEXT)
        self.assertIs(serve(vow, NEAR, NEXT), True)
        self.equal(vow.moves()[4:], plan)
        self.equal(vow.settled()[-1], (2, (DEED, NEXT)))
        self.assertIs(serve(stretch(vow, part(0, 2)), part(0, 2), NEXT), False)

    def test_runs_at_random(self):
        plans = 0
        for dice, run, slow, make in some_runs(68, 120):
            if not slow.up - slow.lying:
                continue
            for _ in range(4):
                crowd = make.crowd(slow.up - slow.lying)
                deed = ("do", dice.randint(0, 3), 1, 0, 5)
                plan = plan_of(run, crowd, deed)
                self.equal(plan, told_plan(run, slow, crowd, deed))
                rest = stretch(run, crowd)
                self.equal(plan_of(rest, crowd, deed), plan)
                ahead = state_of(run)
                self.assertIs(serve(rest, crowd, deed), plan is not None)
                self.equal(state_of(run), ahead)
                if plan is not None:
                    plans += 1
                    self.check_served(rest, slow, crowd, deed)
                    self.assertIsNotNone(plan_of(rest, crowd, deed))
                    self.assertTrue(serve(rest, crowd, deed))
        self.assertGreater(plans, 100)

    def check_served(self, rest, slow, crowd, deed):
        """The best desk's roll and the deed are settled, and are the best desk of the crowd."""
        wanted = best_of([slow.desk[place][1:3] for place in houses_of(crowd)])[1] + (deed,)
        if isinstance(rest, Sworn):
            rolls = [roll for _, roll in rest.settled()]
        else:
            rolls = [roll[:m] for r, m in rest.settled() for s, _, roll in rest.rolls() if r == s]
        self.assertIn(wanted, rolls)
        told = [row[4] for lot, n in houses_of(crowd) for row in rest.desks()[lot] if row[0] <= n < row[1]]
        self.equal(told, [wanted] * len(told))

    def test_in_the_run_itself(self):
        served = 0
        for dice, run, slow, make in some_runs(72, 80):
            for _ in range(3):
                if not slow.up - slow.lying:
                    continue
                crowd = make.crowd(slow.up - slow.lying)
                plan = plan_of(run, crowd, NEXT)
                many = len(run.moves())
                self.assertIs(serve(run, crowd, NEXT), plan is not None)
                self.equal(run.moves()[many:], plan or ())
                for move in plan or ():
                    self.assertIsNone(slow.do(move))
                for name, wanted in slow.told().items():
                    self.equal(getattr(run, name)(), wanted)
                served += plan is not None
        self.assertGreater(served, 50)

    def test_huge_lots(self):
        lots = (("a", 10 ** 12),)
        most = ("lot", 0, 10 ** 12 // 2 + 1)
        pact = (lots, "plain", "own", (((most, None, most, most, most),),), ((),))
        run = Plain(pact)
        spans = tuple((n * 10 ** 10, n * 10 ** 10 + 9 * 10 ** 9) for n in range(100))
        self.assertTrue(serve(run, (spans,), NEXT))
        self.assertFalse(serve(run, (spans[:50],), NEXT))
        self.equal(run.settled(), ((1, 0), (1, 1)))

    def test_wrong_ones(self):
        run, vow = Plain(PACT), Sworn(SWORN, LAST)
        rest = stretch(run, LEFT)
        for call in (plan_of, serve):
            for thing in (None, PACT, (), Plain):
                self.refused(NotUsable("run"), call, thing, None, None)
            self.refused(BadCrowd(-1), call, run, None, None)
            self.refused(BadCrowd(0), call, run, ([], ()), None)
            self.refused(NotUsable("crowd"), call, run, ((), ()), None)
            self.refused(NotUsable("crowd"), call, rest, ALL, None)
            self.refused(NotUsable("crowd"), call, vow, FAR, None)
            self.refused(NotUsable("crowd"), call, vow, NOBODY, NEXT)
            for thing in (None, (), ("change", 0), list(NEXT), ("do", 0, True, 0, 0), ("do", 0, 0, 0, 0), 5):
                self.refused(NotUsable("deed"), call, run, LEFT, thing)
                self.refused(NotUsable("deed"), call, run, B, thing)
        self.equal(run.moves(), ())
