"""Which charters suit: a pact may change from one to the other while a wish is borne."""

from assentwhole.entrylists import couple_of, pair_entries
from assentwhole.orders import unmet_pair
from assentwhole.pactstairs import PactStairs


class Suits:
    """The charters of one pact, each two of them asked once for the stair of a wish."""

    def __init__(self, pact, wish):
        self.base_pact = pact
        self.stairs = PactStairs(pact)
        self.wish = wish
        self.many = len(pact[3])
        self.known = {}

    def works(self, one, two):
        """Whether rolls settled in one, and asked for in two, bear the wish."""
        for entry in pair_entries(self.base_pact, one, two):
            here, there = couple_of(self.stairs, entry)
            if unmet_pair(self.stairs.sizes, here, there, self.wish) is not None:
                return False
        return True

    def suit(self, one, two):
        """Whether two charters, or a charter and itself, suit."""
        if one > two:
            return self.suit(two, one)
        if (one, two) not in self.known:
            self.known[(one, two)] = self.works(one, two) and self.works(two, one)
        return self.known[(one, two)]

    def lone(self):
        """The ascending charters that suit themselves."""
        return [charter for charter in range(self.many) if self.suit(charter, charter)]
