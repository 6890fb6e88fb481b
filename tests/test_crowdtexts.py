"""[19], [20]: crowds as text."""

import itertools

from assentwhole.crowds import crowd_of
from assentwhole.crowdtexts import crowd_text, read_crowd
from assentwhole.errors import BadCrowd, BadText, NotUsable
from tests.samples import HUGE, LOTS, Checks


class CrowdTextTests(Checks):
    def test_examples(self):
        self.equal(crowd_text(LOTS, (((0, 1), (2, 3)), ((0, 1),))), "a:0,2 b:0")
        self.refused(BadText(0, "crowd"), read_crowd, LOTS, "a:0-1,2")

    def test_forms(self):
        big = 10 ** 12
        for crowd, text in (
            (((), ()), "nobody"),
            ((((0, 3),), ()), "a:0-2"),
            (((), ((0, 1),)), "b:0"),
            ((((0, 2),), ((0, 1),)), "a:0-1 b:0"),
        ):
            self.equal(crowd_text(lots=LOTS, crowd=crowd), text)
            self.equal(read_crowd(lots=LOTS, text=text), crowd)
        crowd = (((0, 1), (2, 5), (big - 2, big)), (), ((999, 1000),))
        self.equal(crowd_text(HUGE, crowd), "big:0,2-4,999999999998-999999999999 mid:999")
        self.equal(read_crowd(HUGE, crowd_text(HUGE, crowd)), crowd)

    def test_all_small_crowds(self):
        lots = (("a", 4), ("b", 2))
        houses = [(0, 0, 1), (0, 1, 2), (0, 2, 3), (0, 3, 4), (1, 0, 1), (1, 1, 2)]
        for many in range(7):
            for row in itertools.combinations(houses, many):
                crowd = crowd_of(lots, row)
                self.equal(read_crowd(lots, crowd_text(lots, crowd)), crowd)

    def test_most_spans(self):
        crowd = (tuple((3 * at, 3 * at + 1 + at % 2) for at in range(200)), (), ())
        self.equal(read_crowd(HUGE, crowd_text(HUGE, crowd)), crowd)

    def test_other_strings(self):
        wrong = (
            "", " ", "nobody ", " nobody", "Nobody", "a", "a:", ":", ":0", "a:0 ", " a:0", "a:0  b:0", "b:0 a:0",
            "a:0 a:1", "a:00", "a:01", "a:+1", "a:-1", "a:1-", "a:0-0", "a:1-0", "a:0,1", "a:1,0", "a:0,,2", "a:0,",
            "a:,0", "a:0-1-2", "a:3", "a:0-3", "b:1", "c:0", "a:0,b:0", "a:0;b:0", "a: 0", "a :0", "a:0 nobody",
            "nobody a:0", "a:0\n", "a:0\nb:0", "A:0", "a:0x", "a:\u0661", "a:0:1", "a::0", "a:1_0", "a:" + "9" * 5000,
            "0", "a0", "everyone", "a:0-2,0", "a:2-2",
        )
        for text in wrong:
            self.refused(BadText(0, "crowd"), read_crowd, LOTS, text)

    def test_wrong_parameters(self):
        for text in (None, 5, True, ("a:0",), ["a:0"]):
            self.refused(NotUsable("text"), read_crowd, LOTS, text)
        self.refused(BadCrowd(0), crowd_text, LOTS, (((0, 4),), ()))
