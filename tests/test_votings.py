"""[94], (G11): the scheme in which each house votes once."""

import itertools
import random

from assentwhole.commons import common_of
from assentwhole.errors import BadLots, BadTrust, NotUsable
from assentwhole.schemes import check_scheme, run_scheme, runs_alone
from assentwhole.stairs import stair_holds, stair_of
from assentwhole.votings import vote_once
from tests.samples import Checks, step_trust, told_holds
from tests.test_sufficing import NEVER

SOME = ("lot", 0, 1)
UNITS = tuple((f"h{at}", 1) for at in range(6))


def counts_in(many, crowd):
    return tuple(int(house in crowd) for house in range(many))


class VotingTests(Checks):
    def told_triple(self, lots, keep, machine, s, writer, word):
        """The triple, by the words of [94]."""
        many = len(lots)
        c = machine - many
        if c >= 0 and s < 2 ** many and writer == machine and word == 0:
            return s, tuple((h, 0) for h in range(many)), False
        if c >= 0 and s < 2 ** many and writer < many and word == 1:
            t = s if s // 2 ** writer % 2 == 1 else s + 2 ** writer
            return t, (), told_holds(lots, keep, tuple(t // 2 ** h % 2 for h in range(many)))
        if c < 0 and writer >= many and s in (0, writer - many + 1) and word == 0:
            return writer - many + 1, ((writer, 1),), False
        return s, (), False

    def test_examples(self):
        scheme = vote_once((("p", 1), ("q", 1)), SOME)
        moves = (("begin", 0), ("bring", 0), ("bring", 2))
        self.equal(run_scheme(scheme, (), moves), ((1, 0, 1, 0), ((2, 0, 0), (2, 1, 0), (0, 2, 1)), (True, False), ()))

    def test_each_triple(self):
        dice = random.Random(94)
        for many in (1, 2, 3, 4):
            for _ in range(3):
                lots = UNITS[:many]
                keep = step_trust(dice, lots)
                scheme = vote_once(lots, keep)
                states = max(3, 2 ** many)
                self.equal(scheme[:3], (many, states, 2))
                self.equal(check_scheme(scheme), many)
                wanted = tuple(
                    tuple(
                        tuple(tuple(self.told_triple(lots, keep, m, s, w, word) for word in range(2)) for w in range(many + 2))
                        for s in range(states)
                    )
                    for m in range(many + 2)
                )
                self.equal(scheme[3], wanted)

    def test_six_houses(self):
        keep = ("any", 4, tuple(("lot", at, 1) for at in range(6)))
        scheme = vote_once(UNITS, keep)
        self.equal(scheme[:3], (6, 64, 2))
        self.equal(check_scheme(scheme), 6)

    def test_who_can_end_a_deed(self):
        # Each crowd of keep alone can, for either client; no other one can.
        dice = random.Random(95)
        for _ in range(12):
            lots = UNITS[:dice.randint(1, 4)]
            many = len(lots)
            keep = step_trust(dice, lots)
            scheme = vote_once(lots, keep)
            for size in range(many + 1):
                for crowd in itertools.combinations(range(many), size):
                    for client in (0, 1):
                        moves = (("begin", client),) + tuple(("bring", house) for house in crowd)
                        moves += tuple(("bring", many + at) for at in range(size))
                        self.equal(runs_alone(scheme, crowd, client, moves), told_holds(lots, keep, counts_in(many, crowd)))

    def test_both_end_only_where_enough_fall(self):
        dice = random.Random(96)
        ended_both = 0
        for _ in range(150):
            lots = UNITS[:dice.randint(1, 4)]
            many = len(lots)
            keep = step_trust(dice, lots)
            scheme = vote_once(lots, keep)
            split = common_of(lots, stair_of(lots, keep), stair_of(lots, keep))
            liars = tuple(house for house in range(many) if dice.randrange(3) == 0)
            moves = ()
            for _ in range(40):
                letters = run_scheme(scheme, liars, moves)[1]
                good = [at for at, letter in enumerate(letters) if letter[1] not in liars]
                choices = [("bring", dice.choice(good))] * 6 if good else []
                choices += [("begin", client) for client in (0, 1) if ("begin", client) not in moves]
                choices += [("say", dice.choice(liars), many + dice.randrange(2), 1)] * 2 if liars else []
                honest = [house for house in range(many) if house not in liars]
                choices += [("return", dice.choice(honest))] if honest and dice.randrange(4) == 0 else []
                if choices:
                    moves += (dice.choice(choices),)
            _, _, ended, fallen = run_scheme(scheme, liars, moves)
            if ended == (True, True):
                ended_both += 1
                self.equal(stair_holds(lots, split, counts_in(many, fallen)), True)
        self.assertGreater(ended_both, 10)

    def test_wrong_ones(self):
        self.refused(BadLots(-1, "shape"), vote_once, None, None)
        self.refused(BadLots(0, "size"), vote_once, (("a", True),), None)
        for lots in ((("a", 2),), (("a", 1), ("b", 2)), UNITS + (("more", 1),), tuple((f"k{at}", 1) for at in range(8))):
            self.refused(NotUsable("lots"), vote_once, lots, None)
            self.refused(NotUsable("lots"), vote_once, lots, SOME)
        self.refused(BadTrust(0, "shape"), vote_once, UNITS, None)
        self.refused(BadTrust(0, "many"), vote_once, UNITS, ("lot", 0, 3))
        for keep in (("lot", 0, 0), ("lot", 0, 2), NEVER, ("spare", ()), ("least", ())):
            self.refused(NotUsable("keep"), vote_once, UNITS, keep)
