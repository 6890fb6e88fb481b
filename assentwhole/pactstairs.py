"""The stairs of a pact's trusts, and commons of them, each worked out once."""

from assentwhole.countrules import common_counts
from assentwhole.lots import sizes_of
from assentwhole.pactparts import trust_at
from assentwhole.stairmaking import stair_in
from assentwhole.stairrules import least_members


class PactStairs:
    """The stairs of the trusts of one pact that is known to be one."""

    def __init__(self, pact):
        self.base_pact = pact
        self.sizes = sizes_of(pact[0])
        self.made = {}

    def stair(self, step, charter, kind):
        """The stair of the trust at step that charter has for kind."""
        place = (step, charter, kind)
        if place not in self.made:
            self.made[place] = stair_in(self.sizes, trust_at(self.base_pact, step, charter, kind))
        return self.made[place]

    def commons(self, couples):
        """The stair of either of the commons of these couples of stairs."""
        found = {}
        for one, two in couples:
            for low in one:
                for high in two:
                    found[common_counts(self.sizes, low, high)] = True
        return least_members(list(found))
