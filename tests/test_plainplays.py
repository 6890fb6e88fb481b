"""[59]: played plain runs."""

from assentwhole.errors import BadMove, BadPact, NotFor, NotUsable
from assentwhole.plainplays import play_plain
from assentwhole.plainruns import Plain
from tests.samples import PACT, SWORN, Checks
from tests.test_plainruns import DEED, LEFT, ONE, RIGHT, VIEWS

BACK = ("return", (((1, 2),), ()), 0)
WRITE = ("write", 2, ("do", 1, 1, 0, 7))
AGAIN = (("answer", 2, RIGHT), ("take", 2, RIGHT, None), WRITE, ("store", 2, 1, RIGHT))


class PlainPlayTests(Checks):
    def test_examples(self):
        part = play_plain(PACT, ONE + (BACK,) + AGAIN)
        self.equal((part.parted(), part.fallen()), (((1, 1), (2, 1)), (((1, 2),), ())))

    def test_as_move_by_move(self):
        run = Plain(PACT)
        self.assertIs(type(play_plain(PACT, ())), Plain)
        for many, move in enumerate(ONE + (BACK,) + AGAIN):
            played = play_plain(PACT, (ONE + (BACK,) + AGAIN)[:many])
            for name in VIEWS:
                self.equal(getattr(played, name)(), getattr(run, name)())
            run.do(move)

    def test_the_first_that_is_refused(self):
        self.refused(BadMove(1, "answers"), play_plain, PACT, (ONE[0], ("take", 1, RIGHT, None), "x"))
        self.refused(BadMove(0, "shape"), play_plain, PACT, (None,) + ONE)
        self.refused(BadMove(4, "stored"), play_plain, PACT, ONE + (ONE[3],))
        self.refused(BadMove(2, "shape"), play_plain, PACT, ONE[:2] + (["write", 1, DEED],))

    def test_wrong_ones(self):
        for thing in (None, [], list(ONE), "moves", 0, True, {}):
            self.refused(NotUsable("moves"), play_plain, PACT, thing)
            self.refused(NotUsable("moves"), play_plain, SWORN, thing)
        self.refused(NotFor("manner"), play_plain, SWORN, ())
        self.refused(NotFor("manner"), play_plain, SWORN, (("answer", 1, LEFT),))
        self.refused(BadPact(-1, "shape"), play_plain, None, None)
