"""[91], [92], and what [11] tells of schemes."""

import itertools

from assentwhole.errors import BadMove, BadScheme, NotUsable
from assentwhole.schemes import check_scheme, run_scheme, runs_alone
from tests.samples import Checks


def still(many, states, words):
    """The table of machines that stay where they are."""
    return tuple(
        tuple(tuple(tuple((state, (), False) for _ in range(words)) for _ in range(many + 2)) for state in range(states))
        for _ in range(many + 2)
    )


def with_triple(table, place, triple):
    """The table with another thing at (machine, state, writer, word)."""
    if not place:
        return triple
    at = place[0]
    return table[:at] + (with_triple(table[at], place[1:], triple),) + table[at + 1:]


def scheme_of(many, states, words, triples):
    """A scheme whose machines stay but for some triples {(machine, state, writer, word): triple}."""
    table = still(many, states, words)
    for place, triple in triples.items():
        table = with_triple(table, place, triple)
    return many, states, words, table


# One house, a client that asks it twice and ends at the second answer; the other client sends to itself.
ECHO = scheme_of(1, 3, 2, {
    (1, 0, 1, 0): (1, ((0, 1), (0, 1), (2, 1)), False),
    (0, 0, 1, 1): (1, ((1, 1),), False),
    (0, 1, 1, 1): (2, ((1, 1), (0, 0)), False),
    (1, 1, 0, 1): (2, (), False),
    (1, 2, 0, 1): (2, (), True),
    (2, 0, 2, 0): (1, ((2, 1),), False),
    (2, 1, 2, 1): (2, (), True),
})
SMALL = (1, 2, 1, still(1, 2, 1))


class CheckTests(Checks):
    def test_how_many_houses(self):
        for many, states, words in itertools.product((1, 2, 3), (1, 2), (1, 3)):
            self.equal(check_scheme((many, states, words, still(many, states, words))), many)
        self.equal(check_scheme(ECHO), 1)

    def test_the_shape(self):
        table = still(1, 2, 1)
        wrong = [
            None, 5, True, (), [1, 2, 1, table], (1, 2, 1), (1, 2, 1, table, ()), (0, 2, 1, table), (True, 2, 1, table), (1, 0, 1, table),
            (1, 2, 0, table), (1, 2, True, table), ("1", 2, 1, table), (-1, 2, 1, table), (None, 2, 1, table), (2, 2, 1, table), (1, 1, 1, table),
            (1, 3, 1, table), (1, 2, 2, table), (1, 2, 1, None), (1, 2, 1, list(table)), (1, 2, 1, ()), (1, 2, 1, table[:2]), (1, 2, 1, table + table[:1]),
            (0, 1, 1, still(0, 1, 1)), (1, 0, 1, still(1, 0, 1)), (1, 1, 0, still(1, 1, 0)), (True, 1, 1, still(1, 1, 1)),
            (1, True, 1, still(1, 1, 1)), (1, 1, True, still(1, 1, 1)), (10 ** 59, 10 ** 59, 10 ** 59, table), (1, 2, 1, table[:2] + (list(table[2]),)), (1, 2, 1, table[:2] + (None,)),
            (1, 2, 1, table[:2] + (table[2][:1],)), (1, 2, 1, table[:2] + ((table[2][0], list(table[2][1])),)),
            (1, 2, 1, table[:2] + ((table[2][0], table[2][1][:2]),)), (1, 2, 1, table[:2] + ((table[2][0], table[2][1][:2] + ([],)),)),
            (1, 2, 1, table[:2] + ((table[2][0], table[2][1][:2] + ((),)),)), (1, 2, 1, table[:2] + ((table[2][0], table[2][1][:2] + (5,)),)),
        ]
        for thing in wrong:
            self.refused(BadScheme(-1, "shape"), check_scheme, thing)

    def test_each_triple(self):
        # Numbered as they stand: by machines, states, writers, words.
        places = list(itertools.product(range(3), range(2), range(3), range(2)))
        for number, place in enumerate(places):
            table = still(1, 2, 2)
            for triple, word in (
                (None, "shape"), ([0, (), False], "shape"), ((0, ()), "shape"), ((0, (), False, 0), "shape"), ((2, (), False), "state"),
                ((-1, (), False), "state"), ((False, (), False), "state"), (("0", (), False), "state"), ((0, None, False), "sends"),
                ((0, [], False), "sends"), ((0, ((0, 0, 0),), False), "sends"), ((0, ((3, 0),), False), "sends"), ((0, ((0, 2),), False), "sends"),
                ((0, ((True, 0),), False), "sends"), ((0, ((0, False),), False), "sends"), ((0, ([0, 0],), False), "sends"),
                ((0, ((0, 0), (-1, 0)), False), "sends"), ((0, (), 0), "end"), ((0, (), None), "end"), ((0, (), 1), "end"),
                ((5, None, None), "state"), ((0, 5, None), "sends"),
            ):
                self.refused(BadScheme(number, word), check_scheme, (1, 2, 2, with_triple(table, place, triple)))
            good = (1, 2, 2, with_triple(table, place, (1, ((0, 1), (2, 1), (1, 0)), place[0] > 0)))
            self.equal(check_scheme(good), 1)
            if place[0] == 0:
                self.refused(BadScheme(number, "end"), check_scheme, (1, 2, 2, with_triple(table, place, (0, (), True))))

    def test_of_two_the_first(self):
        table = with_triple(with_triple(still(1, 2, 2), (1, 0, 2, 1), (5, (), False)), (2, 1, 0, 0), None)
        self.refused(BadScheme(17, "state"), check_scheme, (1, 2, 2, table))
        table = with_triple(with_triple(still(1, 2, 2), (0, 1, 1, 0), (0, None, False)), (0, 1, 1, 1), (0, (), True))
        self.refused(BadScheme(8, "sends"), check_scheme, (1, 2, 2, table))
        self.refused(BadScheme(-1, "shape"), check_scheme, (1, 2, 2, table[:2] + (table[2][:1],)))

    def test_at_the_limits(self):
        table = still(6, 77, 2)
        self.equal(check_scheme((6, 77, 2, table)), 6)
        table = with_triple(table, (7, 76, 7, 1), (76, ((7, 1),) * 8, True))
        self.equal(check_scheme((6, 77, 2, table)), 6)
        self.refused(BadScheme(8 * 77 * 8 * 2 - 1, "sends"), check_scheme, (6, 77, 2, with_triple(table, (7, 76, 7, 1), (0, ((8, 0),), True))))


class RunTests(Checks):
    def refuses(self, scheme, liars, moves, word):
        """All moves but the last one are done, and this one is refused."""
        run_scheme(scheme, liars, moves[:-1])
        self.refused(BadMove(len(moves) - 1, word), run_scheme, scheme, liars, moves)
        self.refused(BadMove(len(moves) - 1, word), run_scheme, scheme, liars, moves + (None,))

    def test_a_run(self):
        self.equal(run_scheme(ECHO, (), ()), ((0, 0, 0), (), (False, False), ()))
        moves = (("begin", 0), ("bring", 0), ("bring", 1), ("bring", 3), ("bring", 4), ("begin", 1), ("bring", 6))
        letters = ((1, 0, 1), (1, 0, 1), (1, 2, 1), (0, 1, 1), (0, 1, 1), (0, 0, 0), (2, 2, 1))
        self.equal(run_scheme(ECHO, (), moves), ((2, 2, 2), letters, (True, True), ()))
        self.equal(run_scheme(ECHO, (), moves[:4]), ((2, 2, 0), letters[:6], (False, False), ()))

    def test_a_letter_is_brought_as_often_as_one_likes(self):
        # The house takes the same letter twice, and goes by its state each time; a client that ended stays so.
        moves = (("begin", 0), ("bring", 1), ("bring", 1), ("bring", 1), ("bring", 3), ("bring", 3), ("bring", 3), ("bring", 2))
        states, letters, ended, fallen = run_scheme(ECHO, (), moves)
        self.equal((states, ended, fallen), ((2, 2, 0), (True, False), ()))
        self.equal(letters, ((1, 0, 1), (1, 0, 1), (1, 2, 1), (0, 1, 1), (0, 1, 1), (0, 0, 0)))

    def test_returns(self):
        moves = (("begin", 0), ("bring", 0), ("bring", 1), ("return", 0), ("bring", 0))
        states, letters, ended, fallen = run_scheme(ECHO, (), moves)
        self.equal((states, letters[6:], fallen), ((1, 1, 0), ((0, 1, 1),), (0,)))
        self.equal(run_scheme(ECHO, (), (("return", 0), ("return", 0)))[3], (0,))

    def test_liars(self):
        moves = (("say", 0, 1, 1), ("say", 0, 0, 0), ("begin", 0), ("bring", 0), ("bring", 0))
        states, letters, ended, fallen = run_scheme(ECHO, (0,), moves)
        self.equal((states, ended, fallen), ((0, 2, 0), (True, False), (0,)))
        self.equal(letters, ((0, 1, 1), (0, 0, 0), (1, 0, 1), (1, 0, 1), (1, 2, 1)))
        self.refuses(ECHO, (0,), moves + (("bring", 1),), "liar")
        self.refuses(ECHO, (0,), moves + (("return", 0),), "liar")
        self.refuses(ECHO, (), (("say", 0, 1, 1),), "liar")

    def test_conditions(self):
        self.refuses(ECHO, (), (("begin", 0), ("begin", 1), ("begin", 0)), "begun")
        self.refuses(ECHO, (), (("begin", 0), ("bring", 3)), "letter")
        self.refuses(ECHO, (), (("bring", 0),), "letter")
        self.refuses(ECHO, (0,), (("bring", 0),), "letter")
        self.refuses(ECHO, (0,), (("begin", 0), ("bring", 0)), "liar")

    def test_shapes(self):
        for move in (
            None, 5, (), "begin", ("begin",), ("begin", 2), ("begin", -1), ("begin", True), ("begin", 0, 0), ["begin", 0], ("Begin", 0), (0, 0),
            ("bring",), ("bring", -1), ("bring", False), ("bring", None), ("bring", 0, 0), ("return", 1), ("return", True), ("return", -1),
            ("return",), ("say", 0, 1), ("say", 1, 0, 0), ("say", 0, 3, 0), ("say", 0, 0, 2), ("say", False, 0, 0), ("say", 0, True, 0),
            ("say", 0, 0, True), ("say", 0, 0, 0, 0), ("take", 0), (["begin"], 0), (("begin",), 0), ("begin", (0,)), ("bring", 10 ** 59, 0),
        ):
            for liars in ((), (0,)):
                self.refuses(ECHO, liars, (("begin", 0), move), "shape")
        self.refuses(ECHO, (), (("begin", 0), ("bring", 10 ** 59)), "letter")

    def test_results_are_the_same_again(self):
        moves = (("begin", 0), ("bring", 0))
        self.equal(run_scheme(ECHO, (), moves), run_scheme(ECHO, (), moves))

    def test_wrong_ones(self):
        self.refused(BadScheme(-1, "shape"), run_scheme, None, None, None)
        for liars in (None, [0], (1,), (0, 0), (True,), (-1,), (False,), "0", ("0",), 0, ((0,),)):
            self.refused(NotUsable("liars"), run_scheme, ECHO, liars, None)
        two = (2, 1, 1, still(2, 1, 1))
        self.equal(run_scheme(two, (0, 1), ())[3], (0, 1))
        for liars in ((1, 0), (0, 0), (1, 1), (0, 2), (0, 1, 1)):
            self.refused(NotUsable("liars"), run_scheme, two, liars, ())
        for moves in (None, [], [("begin", 0)], "begin", 5, {}):
            self.refused(NotUsable("moves"), run_scheme, ECHO, (), moves)


class AloneTests(Checks):
    def test_alone(self):
        good = (("begin", 0), ("bring", 0), ("bring", 1), ("bring", 3), ("bring", 4))
        self.equal(runs_alone(ECHO, (0,), 0, good), True)
        self.equal(runs_alone(ECHO, (0,), 0, good + (("bring", 5),)), True)
        for crowd, client, thing in (
            ((), 0, good), ((0,), 1, good), ((0,), 0, good[:-1]), ((0,), 0, good[1:]), ((0,), 0, ()), ((0,), 0, list(good)), ((0,), 0, None),
            ((0,), 0, good + (("begin", 1),)), ((0,), 0, good + (("return", 0),)), ((0,), 0, good + (("bring", 2),)),
            ((0,), 0, good + (("bring", 9),)), ((0,), 0, (("begin", False),) + good[1:]), ((0,), 0, good + (("say", 0, 0, 0),)), ((0,), 0, good + (None,)),
            ((0,), 0, good[:1] + (("bring", False),) + good[2:]), ((0,), 0, (["begin", 0],) + good[1:]), ((0,), 0, good + good[:1]), ((0,), 0, 5),
        ):
            self.equal(runs_alone(ECHO, crowd, client, thing), False)

    def test_a_client_that_sends_to_itself(self):
        for crowd in ((), (0,)):
            self.equal(runs_alone(ECHO, crowd, 1, (("begin", 1), ("bring", 0))), True)
            self.equal(runs_alone(ECHO, crowd, 1, (("begin", 1),)), False)
            self.equal(runs_alone(ECHO, crowd, 1, (("begin", True), ("bring", 0))), False)
            self.equal(runs_alone(ECHO, crowd, 0, (("begin", 1), ("bring", 0))), False)

    def test_a_letter_ahead_of_its_time(self):
        self.equal(runs_alone(ECHO, (0,), 0, (("begin", 0), ("bring", 3), ("bring", 0), ("bring", 1), ("bring", 4))), False)
        self.equal(runs_alone(ECHO, (0,), 1, (("bring", 0), ("begin", 1))), False)

    def test_a_client_that_has_not_begun(self):
        # Client 1 would end by a letter of client 0.
        scheme = scheme_of(1, 1, 1, {(1, 0, 1, 0): (0, ((2, 0),), True), (2, 0, 1, 0): (0, (), True), (2, 0, 2, 0): (0, ((2, 0),), False)})
        moves = (("begin", 0), ("bring", 0))
        self.equal(run_scheme(scheme, (), moves)[2], (True, True))
        self.equal(runs_alone(scheme, (0,), 1, moves), False)
        self.equal(runs_alone(scheme, (0,), 0, moves), False)
        self.equal(runs_alone(scheme, (0,), 0, moves[:1]), True)

    def test_moves_of_other_kinds(self):
        scheme = scheme_of(1, 1, 1, {(1, 0, 1, 0): (0, ((1, 0), (0, 0)), True)})
        start = (("begin", 0),)
        for move, wanted in ((("bring", 0), True), (("bring", 1), True), (("return", 0), False), (("begin", 1), False), (("say", 0, 0, 0), False)):
            self.equal(runs_alone(scheme, (0,), 0, start + (move,)), wanted)
            self.equal(runs_alone(scheme, (0,), 0, start + (("bring", 0), move)), wanted)
            self.equal(runs_alone(scheme, (0,), 0, start + (move, ("bring", 0))), wanted)

    def test_a_client_that_ends_as_it_begins(self):
        scheme = scheme_of(1, 1, 1, {(1, 0, 1, 0): (0, (), True)})
        self.equal(runs_alone(scheme, (), 0, (("begin", 0),)), True)
        self.equal(runs_alone(scheme, (), 1, (("begin", 1),)), False)

    def test_wrong_ones(self):
        self.refused(BadScheme(-1, "shape"), runs_alone, None, None, None, None)
        for crowd in (None, [0], (1,), (0, 0), (True,), (-1,), "0", 0):
            self.refused(NotUsable("crowd"), runs_alone, ECHO, crowd, None, None)
        for client in (None, 2, True, False, -1, "0", (0,)):
            self.refused(NotUsable("client"), runs_alone, ECHO, (), client, None)
        self.equal(runs_alone(SMALL, (), 0, ("begin", 0)), False)
