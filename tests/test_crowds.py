"""[3], [16]: crowds."""

import random

from assentwhole.crowds import check_crowd, counts_of, crowd_of, has_house
from assentwhole.errors import BadCrowd, NotUsable
from tests.samples import HUGE, LOTS, Checks


class CrowdTests(Checks):
    def test_examples(self):
        self.equal(crowd_of(LOTS, ((0, 2, 3), (0, 0, 2), (0, 1, 2))), (((0, 3),), ()))
        crowd = (((1, 3),), ((0, 1),))
        self.equal((counts_of(LOTS, crowd), has_house(LOTS, (((1, 3),), ()), 0, 0)), ((2, 1), False))
        self.refused(BadCrowd(0), check_crowd, LOTS, (((0, 1), (1, 2)), ()))

    def test_how_many(self):
        self.equal(check_crowd(LOTS, ((), ())), 0)
        self.equal(check_crowd(LOTS, (((0, 3),), ((0, 1),))), 4)
        self.equal(check_crowd(LOTS, (((0, 1), (2, 3)), ())), 2)
        self.equal(check_crowd(lots=HUGE, thing=(((0, 10 ** 12 - 2), (10 ** 12 - 1, 10 ** 12)), (), ())), 10 ** 12 - 1)

    def test_shape(self):
        for thing in (None, (), ((),), ((), (), ()), [(), ()], "ab", 5, True):
            self.refused(BadCrowd(-1), check_crowd, LOTS, thing)
            self.refused(BadCrowd(-1), counts_of, LOTS, thing)

    def test_spans(self):
        wrong = (
            None, [], [(0, 1)], 5, True, "", ("ab",), ((0, 1, 2),), ((0,),), ([0, 1],), (0, 1), ((),),
            ((0, 0),), ((1, 1),), ((2, 1),), ((-1, 1),), ((0, 4),), ((3, 4),), ((3, 3),), ((0, True),), ((False, 1),),
            ((0, None),), (("0", 1),), ((0, 1), (1, 2)), ((0, 2), (1, 3)), ((2, 3), (0, 1)), ((0, 1), (0, 1)),
            ((0, 1), (2, 3), (3, 3)),
        )
        for spans in wrong:
            self.refused(BadCrowd(0), check_crowd, LOTS, (spans, ((0, 2),)))
        self.refused(BadCrowd(1), check_crowd, LOTS, (((0, 3),), ((0, 2),)))
        self.refused(BadCrowd(1), check_crowd, LOTS, ((), ((1, 2),)))

    def test_crowd_of_by_houses(self):
        dice = random.Random(3)
        lots = (("a", 12), ("b", 5))
        for _ in range(300):
            pieces = []
            for _ in range(dice.randint(0, 6)):
                lot = dice.randrange(2)
                end = dice.randint(1, lots[lot][1])
                pieces.append((lot, dice.randrange(end), end))
            crowd = crowd_of(lots, tuple(pieces))
            houses = {(lot, n) for lot, first, end in pieces for n in range(first, end)}
            self.equal(check_crowd(lots, crowd), len(houses))
            for lot in (0, 1):
                for number in range(lots[lot][1]):
                    self.equal(has_house(lots, crowd, lot, number), (lot, number) in houses)

    def test_crowd_of_many_spans(self):
        big = 10 ** 12
        spans = tuple((0, big - 3 * at - 2, big - 3 * at) for at in range(300))
        crowd = crowd_of(HUGE, spans)
        self.equal(len(crowd[0]), 300)
        self.equal(counts_of(HUGE, crowd), (600, 0, 0))
        self.equal(crowd_of(HUGE, ((0, 0, big), (0, 5, 6))), (((0, big),), (), ()))
        self.equal(crowd_of(HUGE, ()), ((), (), ()))
        self.equal(crowd_of(HUGE, ((2, 0, 1), (2, 1, 2), (1, 0, 1))), ((), ((0, 1),), ((0, 2),)))

    def test_wrong_spans_of_crowd_of(self):
        wrong = (
            None, [], [(0, 0, 1)], "", 5, ((0, 0),), ([0, 0, 1],), ((2, 0, 1),), ((-1, 0, 1),), ((True, 0, 1),),
            ((0, 0, 4),), ((1, 0, 2),), ((0, 1, 1),), ((0, 2, 1),), ((0, -1, 1),), ((0, 0, True),), ((0, False, 1),),
            ((0, 0, 1), None), ((0, 0, None),), ((None, 0, 1),), ((0, 0, 1, 1),),
        )
        for spans in wrong:
            self.refused(NotUsable("spans"), crowd_of, LOTS, spans)

    def test_wrong_houses(self):
        crowd = (((0, 3),), ())
        self.equal(has_house(LOTS, crowd, 0, 2), True)
        self.equal(has_house(number=0, lot=1, crowd=crowd, lots=LOTS), False)
        for lot in (-1, 2, True, None, "a", (0,)):
            self.refused(NotUsable("lot"), has_house, LOTS, crowd, lot, 9)
        for number in (-1, 3, True, None, "0"):
            self.refused(NotUsable("number"), has_house, LOTS, crowd, 0, number)
        self.refused(NotUsable("number"), has_house, LOTS, crowd, 1, 1)

    def test_ends_of_spans(self):
        crowd = (((2, 5), (7, 10 ** 12)), (), ())
        for number, there in ((1, False), (2, True), (4, True), (5, False), (6, False), (7, True), (10 ** 12 - 1, True)):
            self.equal(has_house(HUGE, crowd, 0, number), there)
