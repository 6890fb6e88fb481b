"""What schemes are, and machines that go by the table of one that is known to be a scheme."""

from assentwhole.values import is_integer, is_number, is_number_to, is_tuple

# The parts of a move behind its word.
FORMS = {"begin": ("client",), "bring": ("number",), "return": ("house",), "say": ("house", "machine", "word")}


def is_cell(thing, machines, words):
    """Whether thing has, for each machine as writer, something for each word."""
    return is_tuple(thing, machines) and all(is_tuple(row, words) for row in thing)


def is_table(thing, machines, states, words):
    """Whether thing has, for each machine, a cell for each state."""
    if not is_tuple(thing, machines) or not all(is_tuple(rows, states) for rows in thing):
        return False
    return all(is_cell(cell, machines, words) for rows in thing for cell in rows)


def has_shape(thing):
    """Whether thing is a scheme but for its triples."""
    if not is_tuple(thing, 4) or not all(is_integer(number) and number > 0 for number in thing[:3]):
        return False
    many, states, words, table = thing
    return is_table(table, many + 2, states, words)


def is_send(scheme, thing):
    """Whether thing is a pair (machine, word)."""
    return is_tuple(thing, 2) and is_number_to(thing[0], scheme[0] + 1) and is_number_to(thing[1], scheme[2] - 1)


def triple_fault(scheme, machine, thing):
    """What is wrong with thing as a triple of machine, or None."""
    if not is_tuple(thing, 3):
        return "shape"
    state, sends, end = thing
    if not is_number_to(state, scheme[1] - 1):
        return "state"
    if not isinstance(sends, tuple) or not all(is_send(scheme, send) for send in sends):
        return "sends"
    return None if isinstance(end, bool) and (not end or machine >= scheme[0]) else "end"


def scheme_fault(thing):
    """The number and the word of the first wrong triple, -1 and "shape" for all of thing, or None."""
    if not has_shape(thing):
        return -1, "shape"
    at = 0
    for machine, rows in enumerate(thing[3]):
        for triple in [triple for cell in rows for row in cell for triple in row]:
            word = triple_fault(thing, machine, triple)
            if word is not None:
                return at, word
            at += 1
    return None


def are_houses(many, thing):
    """Whether thing is an ascending tuple of houses, of so many."""
    if not isinstance(thing, tuple):
        return False
    last = -1
    for house in thing:
        if not is_number_to(house, many - 1) or house <= last:
            return False
        last = house
    return True


class Machines:
    """The machines of a scheme, of which some houses are liars."""

    def __init__(self, scheme, lying):
        self.many = scheme[0]
        self.many_words = scheme[2]
        self.table = scheme[3]
        self.lying = lying
        self.now = [0] * (self.many + 2)
        self.letters = []
        self.begun = [False, False]
        self.ended = [False, False]
        self.felled = {house: True for house in lying}

    def is_part(self, word, thing):
        """Whether thing is what a form calls word."""
        if word == "number":
            return is_number(thing)
        most = {"client": 1, "house": self.many - 1, "machine": self.many + 1, "word": self.many_words - 1}
        return is_number_to(thing, most[word])

    def has_form(self, move):
        """Whether move, which may be any value, has the form of a move."""
        if not isinstance(move, tuple) or not move or not isinstance(move[0], str):
            return False
        form = FORMS.get(move[0])
        if form is None or len(move) != len(form) + 1:
            return False
        return all(self.is_part(word, thing) for word, thing in zip(form, move[1:]))

    def fault(self, move):
        """The word of the first condition that move, any value, does not meet, or None."""
        if not self.has_form(move):
            return "shape"
        if move[0] == "begin":
            return "begun" if self.begun[move[1]] else None
        if move[0] == "say":
            return None if move[1] in self.lying else "liar"
        if move[0] == "return":
            return "liar" if move[1] in self.lying else None
        if move[1] >= len(self.letters):
            return "letter"
        return "liar" if self.receiver(move[1]) in self.lying else None

    def receiver(self, at):
        """The machine to which letter number at is written."""
        return self.letters[at][1]

    def do(self, move):
        """Do a move whose conditions are met."""
        if move[0] == "begin":
            self.begun[move[1]] = True
            self.take(self.many + move[1], self.many + move[1], 0)
        elif move[0] == "bring":
            writer, machine, word = self.letters[move[1]]
            self.take(machine, writer, word)
        elif move[0] == "return":
            self.now[move[1]] = 0
            self.felled[move[1]] = True
        else:
            self.letters.append(move[1:])

    def take(self, machine, writer, word):
        """The machine takes a word of a writer."""
        state, sends, end = self.table[machine][self.now[machine]][writer][word]
        self.now[machine] = state
        self.letters.extend([(machine,) + send for send in sends])
        if end:
            self.ended[machine - self.many] = True

    def outcome(self):
        """The states, the letters, which clients have ended, and the fallen."""
        return tuple(self.now), tuple(self.letters), tuple(self.ended), tuple(sorted(self.felled))


def is_run_alone(scheme, crowd, client, thing):
    """Whether thing is moves of crowd and client alone."""
    if not isinstance(thing, tuple) or not thing or thing[0] != ("begin", client):
        return False
    machines = Machines(scheme, ())
    mine = crowd + (scheme[0] + client,)
    for at, move in enumerate(thing):
        if machines.fault(move) is not None:
            return False
        if at > 0 and (move[0] != "bring" or machines.receiver(move[1]) not in mine):
            return False
        machines.do(move)
    return machines.ended[client]
