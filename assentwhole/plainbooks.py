"""What plain runs keep besides: reigns with rolls, and what was ever stored."""

from assentwhole.crowdjoins import no_houses
from assentwhole.deeds import charter_told
from assentwhole.runbooks import RunBook
from assentwhole.spreads import changed_spread, counts_reaching, even_spread

NEVER = -1


class PlainBook(RunBook):
    """The state of a plain run; a desk is (promise, reign, roll)."""

    def __init__(self, pact):
        super().__init__(pact, no_houses(pact[0]), (0, 0, ()))
        # For each reign with a roll the length of its base, and the roll.
        self.reigns = {}
        # For each reign the most deeds that each house ever stored in it.
        self.stored = {}

    def used(self):
        """The reigns that have a roll."""
        return list(self.reigns)

    def roll_of(self, reign):
        """The roll of a reign that has one."""
        return self.reigns[reign][1]

    def has_length(self, reign, many):
        """Whether the roll of reign has so many deeds, and its base no more."""
        return self.reigns[reign][0] <= many <= len(self.roll_of(reign))

    def is_settled(self, reign, many):
        """Whether (reign, many) is settled, for a reign with a roll of so many deeds."""
        return (reign, self.roll_of(reign)[:many]) in self.sealed

    def keep(self, reign, many, crowd):
        """The houses of crowd have stored so many deeds in reign."""
        old = self.stored[reign] if reign in self.stored else even_spread(self.lots, NEVER)
        self.stored[reign] = changed_spread(self.lots, old, crowd, lambda most: max(most, many))
        for length in range(self.reigns[reign][0], many + 1):
            if not self.is_settled(reign, length):
                self.try_to_settle(reign, self.roll_of(reign)[:length])

    def try_to_settle(self, reign, roll):
        """Settle the first deeds of a reign, these, if enough houses ever stored them."""
        counts = counts_reaching(self.stored[reign], len(roll))
        if self.holds("vote", charter_told(roll), self.kind(reign), counts):
            self.sealed[(reign, roll)] = True
