"""What runs of either manner keep, and what is read off it."""

from assentwhole.crowdjoins import all_houses, has_houses, joined_houses, less_houses, no_houses, shared_houses
from assentwhole.crowds import crowd_counts
from assentwhole.holding import trust_holds
from assentwhole.lots import sizes_of
from assentwhole.pactparts import kinds_in, trust_at
from assentwhole.sights import best_telling
from assentwhole.spreads import even_spread, values_in


class RunBook:
    """The state that plain and sworn runs share; its desks begin with (promise, reign, roll)."""

    def __init__(self, pact, lying, desk):
        self.base_pact = pact
        self.lots = pact[0]
        self.sizes = sizes_of(pact[0])
        self.nobody = no_houses(pact[0])
        self.done = []
        self.now = even_spread(pact[0], desk)
        # The desks ahead of each move that was done.
        self.past = []
        self.answers = {}
        self.sealed = {}
        self.sights = []
        self.lying = lying
        self.returned = self.nobody
        self.up = all_houses(pact[0])
        self.is_stretch = False
        self.gone = {}

    def is_asleep(self, crowd):
        """Whether some house of crowd is not awake."""
        return has_houses(less_houses(self.lots, crowd, self.up))

    def has_liars(self, crowd):
        """Whether some house of crowd is a liar."""
        return has_houses(shared_houses(crowd, self.lying))

    def honest(self, crowd):
        """The houses of crowd that are no liars."""
        return less_houses(self.lots, crowd, self.lying)

    def down(self):
        """The crowd of the fallen."""
        return joined_houses(self.lying, self.returned)

    def desks_in(self, crowd):
        """The desks of the houses of crowd."""
        return values_in(self.now, crowd)

    def top_promise(self, crowd):
        """The greatest promise of a crowd of at least one house."""
        return max(desk[0] for desk in self.desks_in(crowd))

    def best_roll(self, crowd):
        """The roll of the best desk of a crowd of at least one house."""
        return best_telling([desk[1:3] for desk in self.desks_in(crowd)])[1]

    def answers_in(self, reign, crowd):
        """The answers of the houses of crowd for reign, None where there is none."""
        if reign not in self.answers:
            return [None]
        return values_in(self.answers[reign], crowd)

    def answered(self, reign):
        """The spread of the answers for reign."""
        return self.answers[reign] if reign in self.answers else even_spread(self.lots, None)

    def kind(self, reign):
        """The kind of a reign."""
        return reign % kinds_in(self.base_pact)

    def holds(self, step, charter, kind, counts):
        """Whether the trust of this step holds at counts."""
        return trust_holds(self.sizes, trust_at(self.base_pact, step, charter, kind), counts)

    def takes(self, step, charter, kind, crowd):
        """Whether crowd is in the trust of this step."""
        return self.holds(step, charter, kind, crowd_counts(crowd))
