"""[65]: played sworn runs."""

from assentwhole.errors import BadCrowd, BadMove, BadPact, NotFor, NotUsable
from assentwhole.swornplays import play_sworn
from assentwhole.swornruns import Sworn
from tests.samples import PACT, SWORN, Checks
from tests.test_swornruns import DEED, FAR, LAST, NEAR, NOBODY, VIEWS, agreed, begun

MOVES = begun(NEAR) + agreed((DEED,), NEAR) + (("return", NEAR, 1), ("open", 0))


class SwornPlayTests(Checks):
    def test_examples(self):
        moves = (("answer", 1, NEAR), ("echo", 1, (), (), NEAR))
        self.refused(BadMove(1, "base"), play_sworn, SWORN, ((),), moves)

    def test_as_move_by_move(self):
        run = Sworn(SWORN, LAST)
        self.assertIs(type(play_sworn(SWORN, LAST, ())), Sworn)
        for many, move in enumerate(MOVES):
            played = play_sworn(SWORN, LAST, MOVES[:many])
            for name in VIEWS:
                self.equal(getattr(played, name)(), getattr(run, name)())
            run.do(move)

    def test_the_first_that_is_refused(self):
        self.refused(BadMove(0, "shape"), play_sworn, SWORN, LAST, (None,) + MOVES)
        self.refused(BadMove(6, "liar"), play_sworn, SWORN, LAST, MOVES + (("return", FAR, 0), None))
        self.refused(BadMove(0, "liar"), play_sworn, SWORN, NEAR, MOVES)

    def test_wrong_ones(self):
        for thing in (None, [], list(MOVES), "moves", 0, True):
            self.refused(NotUsable("moves"), play_sworn, SWORN, NOBODY, thing)
            self.refused(NotUsable("moves"), play_sworn, PACT, ((), ()), thing)
        for thing in (None, [()], (), ((), ()), (((0, 5),),)):
            at = 0 if thing == (((0, 5),),) else -1
            self.refused(BadCrowd(at), play_sworn, SWORN, thing, None)
        self.refused(BadCrowd(-1), play_sworn, PACT, NOBODY, ())
        self.refused(NotFor("manner"), play_sworn, PACT, ((), ()), (None,))
        self.refused(BadPact(-1, "shape"), play_sworn, None, None, None)
