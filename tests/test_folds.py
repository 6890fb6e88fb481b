"""[97], [98]: rolls folded, and gone on from."""

import random

from assentwhole.errors import BadPact, BadRoll, NotUsable
from assentwhole.folds import fold, go_on
from assentwhole.meanings import meaning
from tests.samples import DUO, PACT, Checks
from tests.test_meanings import LIFE, random_roll


class FoldTests(Checks):
    def test_examples(self):
        self.equal(fold(DUO, LIFE, 2), (2, (0, ((5, 7),), ((0, 1, 10), (1, 1, 7)))))
        self.equal(go_on(DUO, fold(DUO, LIFE, 2), LIFE[2:]) == meaning(DUO, LIFE), True)

    def test_rolls_at_random(self):
        dice = random.Random(97)
        for _ in range(150):
            roll = random_roll(dice, 2)
            for many in range(len(roll) + 1):
                folded = fold(DUO, roll, many)
                self.equal(folded, (many, meaning(DUO, roll[:many])))
                self.equal(go_on(DUO, folded, roll[many:]), meaning(DUO, roll))
                self.equal(go_on(DUO, folded, ()), folded[1])

    def test_no_deed_and_all(self):
        self.equal(fold(DUO, LIFE, 0), (0, (0, (), ())))
        self.equal(fold(DUO, LIFE, 5), (5, meaning(DUO, LIFE)))
        self.equal(fold(DUO, (), 0), (0, (0, (), ())))

    def test_what_never_was_a_roll(self):
        # Sums, numbers and replies are just those of what is folded.
        folded = (99, (1, ((3, -5), (4, 0)), ((2, 7, 100),)))
        deeds = (("do", 2, 7, 3, 1), ("do", 2, 6, 3, 1), ("do", 2, 8, 3, 1), ("do", 0, 1, 9, 2))
        self.equal(go_on(DUO, folded, deeds), (1, ((3, -4), (4, 0), (9, 2)), ((0, 1, 2), (2, 8, -4))))
        self.equal(go_on(DUO, folded, (("change", 0),)), (0,) + folded[1][1:])
        self.equal(go_on(DUO, (0, (1, (), ())), ()), (1, (), ()))

    def test_wrong_ones(self):
        self.refused(BadPact(-1, "shape"), fold, None, None, None)
        self.refused(BadRoll(-1), fold, DUO, None, None)
        for many in (None, 6, -1, True, False, "2", (2,)):
            self.refused(NotUsable("many"), fold, DUO, LIFE, many)
        self.refused(BadPact(-1, "shape"), go_on, None, None, None)
        table, clients = ((3, -5), (4, 0)), ((2, 7, 100), (3, 1, 0))
        self.equal(go_on(DUO, (0, (1, table, clients)), ()), (1, table, clients))
        triples = [
            None, (), [1, table, clients], (1, table), (1, table, clients, ()), (2, table, clients), (True, table, clients), (-1, table, clients),
            (1, list(table), clients), (1, table, list(clients)), (1, table[::-1], clients), (1, table, clients[::-1]), (1, table + table[1:], clients),
            (1, ((3, 1), (3, 2)), clients), (1, table, ((2, 7, 100), (2, 8, 0))), (1, ((3, True),), clients), (1, ((True, 3),), clients),
            (1, ((-1, 3),), clients), (1, ([3, 1],), clients), (1, ((3,),), clients), (1, ((3, 1, 1),), clients), (1, table, ((2, 0, 1),)),
            (1, table, ((2, True, 1),)), (1, table, ((2, 1, None),)), (1, table, ((2, 1, False),)), (1, table, ((-2, 1, 1),)), (1, table, ((2, 1),)),
            (1, table, ([2, 1, 1],)), (1, None, clients), (1, table, None), (1, table, (("2", 1, 1),)), (1, (("3", 1),), clients),
        ]
        for triple in triples:
            self.refused(NotUsable("folded"), go_on, DUO, (0, triple), None)
        good = (1, table, clients)
        for folded in (None, (), [0, good], (0,), (0, good, 0), (-1, good), (True, good), (None, good), ("0", good), good):
            self.refused(NotUsable("folded"), go_on, DUO, folded, ())
        self.refused(NotUsable("folded"), go_on, PACT, (0, good), ())
        for deeds, at in ((None, -1), (list(LIFE), -1), ((("change", 2),), 0), (LIFE + (None,), 5), ((("do", 0, True, 0, 0),), 0)):
            self.refused(BadRoll(at), go_on, DUO, (0, good), deeds)
