"""The scheme in which each house votes once, for the first client that asks it."""

from assentwhole.errors import NotUsable
from assentwhole.holding import trust_holds
from assentwhole.lots import check_lots, sizes_of
from assentwhole.wishes import require_keep

MOST_HOUSES = 6


class Voting:
    """The machines of vote_once: a client's state has a bit for each house that voted for it."""

    def __init__(self, lots, keep):
        self.many = len(lots)
        self.kept = keep
        self.sizes = sizes_of(lots)
        self.full = 1 << self.many

    def is_kept(self, state):
        """Whether keep holds at the counts of the houses that state has."""
        counts = tuple((state >> house) & 1 for house in range(self.many))
        return trust_holds(self.sizes, self.kept, counts)

    def client_takes(self, client, state, writer, word):
        """The triple of a client."""
        if state < self.full and writer == self.many + client and word == 0:
            return state, tuple((house, 0) for house in range(self.many)), False
        if state < self.full and writer < self.many and word == 1:
            grown = state | (1 << writer)
            return grown, (), self.is_kept(grown)
        return state, (), False

    def house_takes(self, state, writer, word):
        """The triple of a house: it votes for one client, and tells this one so again."""
        client = writer - self.many
        if client >= 0 and state in (0, client + 1) and word == 0:
            return client + 1, ((writer, 1),), False
        return state, (), False

    def takes(self, machine, state, writer, word):
        """The triple of a machine."""
        if machine < self.many:
            return self.house_takes(state, writer, word)
        return self.client_takes(machine - self.many, state, writer, word)

    def whole_table(self, states):
        """The table, of two words."""
        machines = list(range(self.many + 2))
        return tuple(
            tuple(
                tuple(tuple(self.takes(machine, state, writer, word) for word in (0, 1)) for writer in machines)
                for state in range(states)
            )
            for machine in machines
        )


def vote_once(lots, keep):
    """The scheme in which a client ends as soon as the houses that voted for it are in keep."""
    many = check_lots(lots)
    if many > MOST_HOUSES or sizes_of(lots) != (1,) * many:
        raise NotUsable("lots")
    require_keep(lots, keep)
    voting = Voting(lots, keep)
    states = max(3, voting.full)
    return many, states, 2, voting.whole_table(states)
