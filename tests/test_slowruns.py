"""[7], [8], [55] to [65]: runs held against slow ones, house by house, move by move."""

import random

from assentwhole.errors import BadMove
from assentwhole.plainruns import Plain
from assentwhole.stretches import stretch
from assentwhole.swornruns import Sworn
from tests.samples import RULES, Checks, random_pact
from tests.slowruns import Moves, SlowPlain, SlowSworn, crowd_of_houses

LOTS_TRIED = ((("a", 3),), (("a", 2), ("b", 1)), (("a", 4),), (("a", 2), ("b", 2)), (("a", 1), ("b", 1), ("c", 1)))


class SlowRunTests(Checks):
    def told(self, run, slow):
        """The run tells what the slow one tells."""
        for name, wanted in slow.told().items():
            self.equal(getattr(run, name)(), wanted)

    def tried(self, run, slow, move, words):
        """The move is done, or refused with the same word, in both."""
        many = len(slow.before)
        word = slow.do(move)
        words[(move[0], word)] = words.get((move[0], word), 0) + 1
        if word is None:
            self.assertIsNone(run.do(move))
        else:
            self.refused(BadMove(many, word), run.do, move)
        self.equal(len(run.moves()), many + (word is None))
        return word is None

    def course(self, dice, run, slow, make, words, many):
        for _ in range(many):
            if self.tried(run, slow, make(slow), words):
                self.told(run, slow)

    def narrowed(self, dice, run, slow, make, words):
        """A stretch from the run, and a stretch from this one; the run and both go on."""
        honest = sorted(slow.up - slow.lying)
        if not honest:
            return
        crowd = crowd_of_houses(slow.lots, dice.sample(honest, dice.randint(1, len(honest))))
        near, slow_near = stretch(run, crowd), slow.stretch(crowd)
        self.told(near, slow_near)
        self.course(dice, near, slow_near, make, words, 40)
        self.told(run, slow)
        inner = crowd_of_houses(slow.lots, dice.sample(sorted(slow_near.up), dice.randint(1, len(slow_near.up))))
        deep, slow_deep = stretch(near, inner), slow_near.stretch(inner)
        self.course(dice, deep, slow_deep, make, words, 30)
        self.course(dice, run, slow, make, words, 20)
        self.course(dice, near, slow_near, make, words, 20)
        for one, other in ((run, slow), (near, slow_near), (deep, slow_deep)):
            self.told(one, other)

    def test_plain(self):
        dice = random.Random(55)
        words = {}
        for at in range(75):
            pact = random_pact(
                dice, LOTS_TRIED[at % 5], "plain", RULES[at % 3], dice.randint(1, 3), dice.randint(1, 2), dice.randint(1, 2)
            )
            make = Moves(dice, pact).plain
            run, slow = Plain(pact), SlowPlain(pact)
            self.course(dice, run, slow, make, words, 150)
            self.narrowed(dice, run, slow, make, words)
        wanted = {
            "answer": "asleep promise", "take": "asleep gone taken answers known ask", "write": "roll change rule",
            "store": "asleep roll length promise stored", "return": "asleep at", "open": "", "tell": "asleep look",
            "show": "look tellers settled", "openhead": "roll", "tellhead": "asleep look promise",
            "showhead": "look length settled tellers",
        }
        self.all_met(words, wanted)

    def test_sworn(self):
        dice = random.Random(61)
        words = {}
        for at in range(75):
            lots = LOTS_TRIED[at % 5]
            pact = random_pact(dice, lots, "sworn", RULES[at % 3], dice.randint(1, 3), dice.randint(1, 2), dice.randint(1, 2))
            houses = [(lot, n) for lot, (_, size) in enumerate(lots) for n in range(size)]
            liars = dice.sample(houses, dice.choice((0, 1, 1, 1, 2, len(houses))))
            make = Moves(dice, pact, 3).sworn
            run, slow = Sworn(pact, crowd_of_houses(lots, liars)), SlowSworn(pact, liars)
            self.course(dice, run, slow, make, words, 150)
            self.narrowed(dice, run, slow, make, words)
        wanted = {
            "answer": "asleep liar promise", "forge": "asleep honest lock", "lay": "asleep gone answers known base ask",
            "echo": "asleep base promise line change rule", "lock": "asleep base promise lock line", "return": "asleep liar at",
            "open": "", "tell": "asleep look liar", "telllie": "asleep look honest lock", "show": "look tellers settled",
        }
        self.all_met(words, wanted)

    def all_met(self, words, wanted):
        """Each move was done, and refused with each of its words, several times."""
        for move, told in wanted.items():
            for word in [None] + told.split():
                self.assertGreater(words.get((move, word), 0), 2, (move, word))
        known = {(move, word) for move, told in wanted.items() for word in [None] + told.split()}
        self.assertEqual(set(words) - known, set())
