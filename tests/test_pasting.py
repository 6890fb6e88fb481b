"""[93], (G11): runs of two crowds pasted, so that both clients end."""

import random

from assentwhole.errors import BadScheme, NotUsable
from assentwhole.pasting import paste
from assentwhole.schemes import run_scheme, runs_alone
from assentwhole.votings import vote_once
from tests.samples import Checks
from tests.test_schemes import ECHO, scheme_of


def random_scheme(dice, many, states, words):
    """A scheme with triples at random; clients end now and then."""
    triples = {}
    for machine in range(many + 2):
        for state in range(states):
            for writer in range(many + 2):
                for word in range(words):
                    sends = tuple((dice.randrange(many + 2), dice.randrange(words)) for _ in range(dice.choice((0, 1, 1, 2, 3))))
                    end = machine >= many and dice.randrange(4) == 0
                    triples[machine, state, writer, word] = (dice.randrange(states), sends, end)
    return scheme_of(many, states, words, triples)


def random_alone(dice, scheme, crowd, client, most):
    """Moves of crowd and client alone, found move by move; None if the client does not end."""
    moves = (("begin", client),)
    for _ in range(most):
        letters, ended = run_scheme(scheme, (), moves)[1:3]
        if ended[client] and dice.randrange(3) == 0:
            break
        mine = [at for at, (_, machine, _) in enumerate(letters) if machine in crowd or machine == scheme[0] + client]
        if not mine:
            break
        moves += (("bring", dice.choice(mine)),)
    return moves if runs_alone(scheme, crowd, client, moves) else None


class PasteTests(Checks):
    def pasted(self, scheme, one, two):
        """Both manners are right."""
        both = set(one[0]) & set(two[0])
        for manner in ("plain", "sworn"):
            found = paste(scheme, manner, one, two)
            self.equal((type(found), len(found)), (tuple, 2))
            liars, moves = found
            self.assertLessEqual(len(moves), 6000)
            _, _, ended, fallen = run_scheme(scheme, liars, moves)
            self.equal(ended, (True, True))
            self.assertLessEqual(set(fallen), both)
            if manner == "plain":
                self.equal(liars, ())
            else:
                self.assertNotIn("return", [move[0] for move in moves])

    def test_examples(self):
        scheme = vote_once((("p", 1), ("q", 1)), ("lot", 0, 1))
        alone = (("begin", 0), ("bring", 0), ("bring", 2))
        liars, moves = paste(scheme, "sworn", ((0,), alone), ((0,), (("begin", 1),) + alone[1:]))
        self.equal((liars, run_scheme(scheme, liars, moves)[2:]), ((0,), ((True, True), (0,))))

    def test_schemes_at_random(self):
        dice = random.Random(93)
        shared = {}
        for _ in range(400):
            scheme = random_scheme(dice, dice.randint(1, 4), dice.randint(1, 3), dice.randint(1, 2))
            houses = range(scheme[0])
            crowds = [tuple(house for house in houses if dice.randrange(3)) for _ in range(2)]
            runs = [random_alone(dice, scheme, crowds[client], client, 14) for client in (0, 1)]
            if None not in runs:
                self.pasted(scheme, (crowds[0], runs[0]), (crowds[1], runs[1]))
                both = set(crowds[0]) & set(crowds[1])
                kind = "none" if not both else "all" if len(both) == scheme[0] else "some"
                shared[kind] = shared.get(kind, 0) + 1
        self.assertEqual(set(shared), {"none", "some", "all"})
        self.assertGreater(min(shared.values()), 3)

    def test_no_house_and_all_houses(self):
        lots = tuple((f"h{at}", 1) for at in range(4))
        keep = ("any", 2, tuple(("lot", at, 1) for at in range(4)))
        scheme = vote_once(lots, keep)

        def asked(client, crowd):
            return (("begin", client),) + tuple(("bring", house) for house in crowd) + tuple(("bring", 4 + at) for at in range(len(crowd)))

        for one, two in (((0, 1), (2, 3)), ((0, 1, 2, 3), (0, 1, 2, 3)), ((0, 1), (1, 2)), ((0, 1, 2), (1, 2, 3)), ((3, 1, 2, 0)[::-1][:2], (2, 3))):
            one = tuple(sorted(one))
            self.pasted(scheme, (one, asked(0, one)), (two, asked(1, two)))
        self.equal(paste(scheme, "plain", ((0, 1), asked(0, (0, 1))), ((2, 3), asked(1, (2, 3))))[0], ())
        # Nobody falls where there is no common house.
        for manner in ("plain", "sworn"):
            liars, moves = paste(scheme, manner, ((0, 1), asked(0, (0, 1))), ((2, 3), asked(1, (2, 3))))
            self.equal((liars, run_scheme(scheme, liars, moves)[3]), ((), ()))

    def test_a_house_that_is_asked_again_and_again(self):
        good = ((0,), (("begin", 0), ("bring", 1), ("bring", 1), ("bring", 1), ("bring", 0), ("bring", 3), ("bring", 5), ("bring", 3), ("bring", 4)))
        self.equal(runs_alone(ECHO, good[0], 0, good[1]), True)
        for crowd in ((), (0,)):
            self.pasted(ECHO, good, (crowd, (("begin", 1), ("bring", 0))))
        # A client that is in no one's need of a house.
        self.pasted(ECHO, good, ((0,), (("begin", 1), ("bring", 0), ("bring", 0))))

    def test_as_many_moves_as_the_limits_let(self):
        # A house that writes eight letters each time, brought 299 letters by each client.
        sends = tuple((0, 0) for _ in range(7)) + ((1, 0),)
        triples = {(0, 0, writer, 0): (0, sends, False) for writer in (0, 1, 2)}
        triples[1, 0, 1, 0] = triples[2, 0, 2, 0] = (0, ((0, 0),) * 8, True)
        scheme = scheme_of(1, 1, 1, triples)
        one = ((0,), (("begin", 0),) + (("bring", 0),) * 299)
        two = ((0,), (("begin", 1),) + tuple(("bring", 8 * at) for at in range(299)))
        self.pasted(scheme, one, two)
        self.assertGreater(len(paste(scheme, "sworn", one, two)[1]), 4000)

    def test_wrong_ones(self):
        one, two = ((0,), (("begin", 0), ("bring", 0), ("bring", 1), ("bring", 3), ("bring", 4))), ((), (("begin", 1), ("bring", 0)))
        self.pasted(ECHO, one, two)
        self.refused(BadScheme(-1, "shape"), paste, None, None, None, None)
        for manner in (None, "Plain", "own", True, ["plain"], ("plain",)):
            self.refused(NotUsable("manner"), paste, ECHO, manner, None, None)
        for wrong in (None, (), list(one), one + ((),), one[:1], (one[1], one[0]), ([0], one[1]), ((), one[1]), two, ((0,), list(one[1])), ((1,), one[1]), ((0,), one[1][:4]), ((0, 0), one[1]), 5):
            self.refused(NotUsable("one"), paste, ECHO, "plain", wrong, None)
            self.refused(NotUsable("one"), paste, ECHO, "sworn", wrong, two)
        for wrong in (None, (), one, list(two), ((), two[1][:1]), ((False,), two[1]), ((), (("begin", True), ("bring", 0))), (None, two[1])):
            self.refused(NotUsable("two"), paste, ECHO, "plain", one, wrong)
