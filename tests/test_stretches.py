"""[67], [11]: stretches."""

from assentwhole.errors import BadCrowd, NotUsable
from assentwhole.plainplays import play_plain
from assentwhole.plainruns import Plain
from assentwhole.stretches import stretch
from assentwhole.swornplays import play_sworn
from assentwhole.swornruns import Sworn
from tests.samples import PACT, SWORN
from tests.test_plainruns import ALL, B, DEED, LEFT, NEXT, ONE, RIGHT, Runs, house, seen
from tests.test_swornruns import EVERY, FAR, LAST, NEAR, agreed, begun, part
from tests.test_swornruns import VIEWS as SWORN_VIEWS
from tests.test_swornruns import seen as sworn_seen


class StretchTests(Runs):
    def test_examples(self):
        run = play_plain(PACT, ONE)
        rest = stretch(run, RIGHT)
        self.equal((rest.awake(), rest.rolls(), rest.settled(), rest.desks() == run.desks()), (RIGHT, (), (), True))
        self.bad(rest, "asleep", ("answer", 2, LEFT))
        self.bad(rest, "gone", ("take", 1, RIGHT, None))

    def test_a_new_stretch(self):
        run = play_plain(PACT, ONE + (("open", 0), ("return", house(2), 0)))
        ahead = seen(run)
        rest = stretch(run, RIGHT)
        self.assertIs(type(rest), Plain)
        self.equal(seen(rest), ((), PACT, run.desks(), (), (), None, RIGHT, ((), ()), ()))
        self.equal(seen(run), ahead)

    def test_what_sleeps(self):
        rest = stretch(play_plain(PACT, ONE + (("open", 0), ("openhead", 1))), RIGHT)
        self.bad(
            rest, "asleep", ("answer", 2, LEFT), ("answer", 1, ALL), ("take", 1, LEFT, 5), ("take", 5, B, None), ("store", 9, 9, LEFT),
            ("return", RIGHT, 0), ("return", LEFT, 9), ("return", house(1), 99), ("tell", 9, LEFT), ("tellhead", 9, ALL),
        )
        self.bad(rest, "look", ("tell", 0, RIGHT), ("tellhead", 0, RIGHT), ("show", 0), ("showhead", 0, 0))
        self.bad(rest, "roll", ("write", 1, DEED), ("openhead", 1), ("store", 1, 0, RIGHT))
        self.bad(rest, "shape", ("answer", 0, LEFT), ("return", RIGHT, -1))

    def test_a_stretch_of_everyone(self):
        rest = stretch(Plain(PACT), ALL)
        self.bad(rest, "asleep", ("return", ALL, 0), ("return", B, 1))
        self.good(rest, *ONE)
        self.equal(rest.fallen(), ((), ()))

    def test_gone_comes_first(self):
        rest = stretch(play_plain(PACT, ONE), RIGHT)
        self.bad(rest, "gone", ("take", 1, house(1), 7), ("take", 1, RIGHT, "x"))
        self.bad(rest, "answers", ("take", 2, RIGHT, 7))
        self.good(rest, ("answer", 2, RIGHT))
        self.bad(rest, "known", ("take", 2, RIGHT, (1, 1)), ("take", 2, RIGHT, (1, 0)))
        self.good(rest, ("take", 2, RIGHT, None))
        self.bad(rest, "taken", ("take", 2, RIGHT, None))
        self.equal(rest.rolls(), ((2, 1, (DEED,)),))

    def test_later_moves_in_the_one_and_the_other(self):
        run = play_plain(PACT, ONE)
        rest = stretch(run, RIGHT)
        ahead = seen(rest)
        self.good(run, ("answer", 2, ALL), ("take", 2, LEFT, None), ("write", 2, NEXT), ("store", 2, 2, LEFT), ("open", 0))
        self.equal(seen(rest), ahead)
        later = seen(run)
        self.good(rest, ("answer", 2, RIGHT), ("take", 2, RIGHT, None), ("store", 2, 1, RIGHT), ("open", 0))
        self.equal(rest.settled(), ((2, 1),))
        self.equal(rest.desks()[0], ((0, 1, 1, 1, (DEED,)), (1, 3, 2, 2, (DEED,))))
        self.equal(seen(run), later)

    def test_what_was_stored_ahead_does_not_count(self):
        run = play_plain(PACT, ONE[:3] + (("store", 1, 1, house(0)),))
        rest = stretch(run, ALL)
        self.good(rest, ("answer", 2, ALL), ("take", 2, ALL, None), ("store", 2, 1, house(1)))
        self.equal(rest.settled(), ())
        self.good(rest, ("store", 2, 1, house(2)))
        self.equal(rest.settled(), ((2, 1),))

    def test_a_stretch_of_a_stretch(self):
        run = play_plain(PACT, ONE)
        rest = stretch(run, (((0, 3),), ()))
        self.good(rest, ("answer", 2, RIGHT), ("take", 2, RIGHT, None))
        self.refused(NotUsable("crowd"), stretch, rest, ALL)
        self.refused(NotUsable("crowd"), stretch, rest, B)
        deep = stretch(rest, RIGHT)
        self.equal((deep.awake(), deep.rolls(), deep.moves()), (RIGHT, (), ()))
        self.bad(deep, "gone", ("take", 1, RIGHT, None), ("take", 2, RIGHT, None))
        self.good(deep, ("answer", 3, RIGHT), ("take", 3, RIGHT, None))
        self.good(rest, ("answer", 3, RIGHT), ("take", 3, RIGHT, None))
        self.equal(stretch(deep, house(1)).desks(), deep.desks())

    def test_wrong_ones(self):
        run = Plain(PACT)
        for thing in (None, PACT, (), 5, Plain, "run", [run]):
            self.refused(NotUsable("run"), stretch, thing, None)
        for thing, at in ((None, -1), ([(), ()], -1), (((),), -1), ((((0, 4),), ()), 0), (((), [(0, 1)]), 1)):
            self.refused(BadCrowd(at), stretch, run, thing)
        self.refused(NotUsable("crowd"), stretch, run, ((), ()))


class SwornStretchTests(Runs):
    views = SWORN_VIEWS

    def test_a_new_stretch(self):
        run = play_sworn(SWORN, LAST, begun(NEAR) + agreed((DEED,), NEAR) + (("open", 0), ("return", part(0, 1), 0)))
        ahead = sworn_seen(run)
        rest = stretch(run, part(1, 3))
        self.assertIs(type(rest), Sworn)
        self.equal(sworn_seen(rest), ((), SWORN, LAST, run.desks(), (), (), (), None, part(1, 3), LAST, ()))
        self.equal(sworn_seen(run), ahead)

    def test_which_crowds(self):
        run = Sworn(SWORN, LAST)
        for crowd in (LAST, FAR, EVERY, ((),)):
            self.refused(NotUsable("crowd"), stretch, run, crowd)
        rest = stretch(run, part(0, 2))
        for crowd in (NEAR, part(2, 3), LAST, ((),)):
            self.refused(NotUsable("crowd"), stretch, rest, crowd)
        self.refused(BadCrowd(0), stretch, rest, part(0, 5))

    def test_what_sleeps_and_what_is_gone(self):
        rest = stretch(play_sworn(SWORN, LAST, begun(NEAR) + agreed((DEED,), NEAR)), NEAR)
        self.bad(
            rest, "asleep", ("answer", 9, EVERY), ("forge", 2, LAST, 0, ()), ("lay", 1, FAR, None, ()), ("echo", 1, (), (), FAR),
            ("lock", 1, (), (), LAST), ("return", NEAR, 0), ("tell", 9, FAR), ("telllie", 9, LAST, 0, ()), ("return", LAST, 0),
        )
        self.bad(rest, "honest", ("forge", 2, NEAR, 9, ()))
        self.bad(rest, "look", ("telllie", 0, NEAR, 0, ()))
        self.bad(rest, "gone", ("lay", 1, NEAR, None, ()), ("lay", 1, NEAR, 5, (NEXT,)))
        self.bad(rest, "base", ("echo", 1, (), (DEED,), NEAR), ("lock", 1, (), (), NEAR))
        self.good(rest, ("answer", 2, NEAR))
        self.bad(rest, "known", ("lay", 2, NEAR, (1, (DEED,)), (DEED,)))
        self.good(rest, ("lay", 2, NEAR, None, (DEED,)), *agreed((DEED, NEXT), NEAR, 2, (DEED,)))
        self.equal(rest.settled(), ((2, (DEED,)), (2, (DEED, NEXT))))

    def test_later_moves_and_a_stretch_of_a_stretch(self):
        run = play_sworn(SWORN, LAST, begun(NEAR) + agreed((DEED,), NEAR))
        rest = stretch(run, NEAR)
        self.good(rest, *begun(NEAR, 3, (DEED,)))
        ahead = sworn_seen(run)
        deep = stretch(rest, part(0, 2))
        self.bad(deep, "gone", ("lay", 3, part(0, 2), None, ()), ("lay", 1, part(0, 2), None, ()))
        self.good(deep, ("answer", 4, part(0, 2)))
        self.bad(deep, "ask", ("lay", 4, part(0, 2), None, (DEED,)))
        self.good(rest, *agreed((DEED, NEXT), NEAR, 3, (DEED,)))
        self.equal(sworn_seen(run), ahead)
        self.equal(deep.desks()[0][0], (0, 2, 4, 1, (DEED,), 1, (), (DEED,)))
        self.good(run, ("answer", 3, NEAR), ("lay", 3, NEAR, None, (DEED,)))
        self.equal(rest.laid(), ((3, (DEED,)),))

    def test_echoes_ahead_do_not_count_but_bind(self):
        run = play_sworn(SWORN, LAST, begun(NEAR) + (("echo", 1, (), (DEED,), NEAR), ("answer", 2, NEAR)))
        rest = stretch(run, NEAR)
        self.equal(rest.locked(), ())
        self.bad(rest, "answers", ("lay", 2, NEAR, None, ()))
        self.good(rest, ("answer", 5, NEAR), ("lay", 5, NEAR, None, ()), ("echo", 5, (), (NEXT,), part(0, 2)))
        self.equal((rest.locked(), rest.laid()), ((), ((5, ()),)))
        self.good(rest, ("echo", 5, (), (NEXT,), part(2, 3)), ("lock", 5, (), (NEXT,), NEAR), ("open", 0), ("tell", 0, NEAR), ("show", 0))
        self.equal(rest.looks(), (("desk", (NEXT,), True),))
