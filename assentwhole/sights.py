"""Looks of a run, from when they are opened to what they show."""

from assentwhole.crowdjoins import joined_houses
from assentwhole.deeds import begins


class Sight:
    """One look: its aim is a kind for desk looks, a reign for head looks, whose roll had a noted length."""

    def __init__(self, word, aim, noted, ahead, tellers):
        """ahead is how many rolls were settled when it was opened; tellers is nobody."""
        self.word = word
        self.aim = aim
        self.noted = noted
        self.ahead = ahead
        self.tellers = tellers
        self.told = {}
        self.shown = None
        self.right = None

    def hear(self, crowd, tellings):
        """The houses of crowd tell what tellings, pairs (reign, roll), have."""
        self.tellers = joined_houses(self.tellers, crowd)
        for telling in tellings:
            self.told[telling] = True

    def best(self):
        """The best of what was told, and of (0, ())."""
        return best_telling(list(self.told) + [(0, ())])

    def show(self, sealed, roll):
        """Show roll, when these rolls are settled."""
        ahead = list(sealed)[:self.ahead]
        self.shown = roll
        self.right = all(begins(other, roll) for reign, other in ahead)


def best_telling(tellings):
    """The pair (reign, roll) of the greatest reign, the most deeds, the least roll."""
    reign, many = max((reign, len(roll)) for reign, roll in tellings)
    return reign, min(roll for other, roll in tellings if other == reign and len(roll) == many)
