"""[96], [98], (G14): what rolls mean, and the replies to their deeds."""

import random

from assentwhole.errors import BadPact, BadRoll
from assentwhole.meanings import meaning, replies
from assentwhole.rolls import charter_of
from tests.samples import DUO, PACT, Checks

LIFE = (("do", 0, 1, 5, 10), ("do", 1, 1, 5, -3), ("do", 0, 1, 5, 99), ("change", 1), ("do", 0, 3, 2, 4))


def told_counts(roll, at):
    """Whether deed number at counts, by the words of [96]."""
    if roll[at][0] != "do":
        return False
    ahead = [roll[n][2] for n in range(at) if roll[n][0] == "do" and roll[n][1] == roll[at][1] and told_counts(roll, n)]
    return not ahead or roll[at][2] > ahead[-1]


def told_sum(roll, upto, name):
    return sum(roll[n][4] for n in range(upto) if told_counts(roll, n) and roll[n][3] == name)


def told_replies(roll):
    found = []
    for at, deed in enumerate(roll):
        if deed[0] == "change":
            found.append(None)
        elif told_counts(roll, at):
            found.append(told_sum(roll, at + 1, deed[3]))
        else:
            last = [n for n in range(at) if told_counts(roll, n) and roll[n][1] == deed[1]][-1]
            found.append(found[last] if roll[last][2] == deed[2] else None)
    return tuple(found)


def told_meaning(pact, roll):
    counting = [at for at in range(len(roll)) if told_counts(roll, at)]
    names = sorted({roll[at][3] for at in counting})
    clients = sorted({roll[at][1] for at in counting})
    last = {client: [at for at in counting if roll[at][1] == client][-1] for client in clients}
    told = told_replies(roll)
    return (
        charter_of(pact, roll), tuple((name, told_sum(roll, len(roll), name)) for name in names),
        tuple((client, roll[last[client]][2], told[last[client]]) for client in clients),
    )


def random_roll(dice, charters, most=14):
    return tuple(
        ("change", dice.randrange(charters)) if dice.randrange(6) == 0
        else ("do", dice.randrange(3), dice.randint(1, 5), dice.randrange(3), dice.randint(-4, 4))
        for _ in range(dice.randint(0, most))
    )


class MeaningTests(Checks):
    def test_examples(self):
        self.equal(replies(DUO, LIFE + (("do", 0, 1, 5, 10),)), (10, 7, 10, None, 4, None))
        self.equal(meaning(DUO, LIFE), (1, ((2, 4), (5, 7)), ((0, 3, 4), (1, 1, 7))))

    def test_rolls_at_random(self):
        dice = random.Random(96)
        for _ in range(300):
            roll = random_roll(dice, 2)
            self.equal(replies(DUO, roll), told_replies(roll))
            self.equal(meaning(DUO, roll), told_meaning(DUO, roll))

    def test_which_deeds_count(self):
        def do(client, number, amount):
            return ("do", client, number, 0, amount)

        for numbers, wanted in (
            ((2, 1), (1, None)), ((1, 2), (1, 3)), ((2, 2), (1, 1)), ((5, 3, 5), (1, None, 1)), ((5, 3, 4, 6), (1, None, None, 9)),
            ((1, 2, 1, 2, 3), (1, 3, None, 3, 19)), ((3, 2, 2, 3), (1, None, None, 1)),
        ):
            roll = tuple(do(7, number, 2 ** at) for at, number in enumerate(numbers))
            self.equal(replies(PACT, roll), wanted)
            others = tuple(do(client, number, 2 ** at) for at, number in enumerate(numbers) for client in (7, 8))
            self.equal(len([reply for reply in replies(PACT, others) if reply is not None]), 2 * len([w for w in wanted if w is not None]))

    def test_small_things(self):
        self.equal(meaning(DUO, ()), (0, (), ()))
        self.equal(replies(DUO, ()), ())
        self.equal(meaning(DUO, (("change", 1), ("change", 1))), (1, (), ()))
        self.equal(meaning(DUO, (("do", 3, 1, 4, 0),)), (0, ((4, 0),), ((3, 1, 0),)))
        self.equal(meaning(DUO, (("do", 0, 1, 4, 5), ("do", 0, 2, 4, -5))), (0, ((4, 0),), ((0, 2, 0),)))
        # A name whose only deed does not count has no sum.
        self.equal(meaning(DUO, (("do", 0, 1, 4, 5), ("do", 0, 1, 6, 5))), (0, ((4, 5),), ((0, 1, 5),)))

    def test_replies_of_a_beginning(self):
        dice = random.Random(97)
        for _ in range(100):
            roll = random_roll(dice, 2)
            many = dice.randint(0, len(roll))
            self.equal(replies(DUO, roll)[:many], replies(DUO, roll[:many]))

    def test_a_number_twice(self):
        dice = random.Random(98)
        for _ in range(100):
            roll = random_roll(dice, 2)
            for client, number, _ in meaning(DUO, roll)[2]:
                self.equal(number, max(deed[2] for deed in roll if deed[0] == "do" and deed[1] == client))
                again = roll + (("do", client, number, 9, 99),)
                self.equal(meaning(DUO, again), meaning(DUO, roll))
            told = {}
            for deed, reply in zip(roll, replies(DUO, roll)):
                if deed[0] == "do" and reply is not None:
                    self.equal(told.setdefault(deed[1:3], reply), reply)

    def test_great_numbers(self):
        roll = tuple(("do", 10 ** 6, at + 1, 10 ** 6, -10 ** 6) for at in range(60))
        self.equal(meaning(PACT, roll), (0, ((10 ** 6, -60 * 10 ** 6),), ((10 ** 6, 60, -60 * 10 ** 6),)))

    def test_wrong_ones(self):
        for call in (meaning, replies):
            self.refused(BadPact(-1, "shape"), call, None, None)
            for roll, at in (
                (None, -1), (list(LIFE), -1), (LIFE[:2] + (list(LIFE[2]),), 2), ((("do", 0, 0, 0, 0),), 0), ((("do", 0, True, 0, 0),), 0),
                (LIFE + (("change", 2),), 5), ((("change", True),), 0), ((("do", 0, 1, 0),), 0), ((("do", -1, 1, 0, 0),), 0),
            ):
                self.refused(BadRoll(at), call, DUO, roll)
