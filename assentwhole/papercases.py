"""What a paper is about: two trusts and a wish, and the boxes of counts that its trees part."""

from assentwhole.countrules import common_counts
from assentwhole.grids import atoms_in
from assentwhole.holding import trust_holds
from assentwhole.values import is_integer, is_tuple

# Where a box has low and high of a trust.
PLACES = {"first": 0, "second": 2}


def ranks_of(size, numbers):
    """How many of the ascending numbers are at most n, for each n that a low or high may be."""
    upto = {0: 0}
    for at, number in enumerate(numbers):
        # A high ends just ahead of a number; the number ahead of it may be the same.
        upto[number - 1] = at
        upto[number] = at + 1
    upto[size] = len(numbers)
    return upto


class TrustAtoms:
    """The atoms of a trust, lot by lot, of which a box leaves a range."""

    def __init__(self, sizes, trust):
        self.atoms = {atom: True for atom in atoms_in(sizes, trust)}
        self.numbers = [[number for lot, number in self.atoms if lot == at] for at in range(len(sizes))]
        self.ranks = [ranks_of(size, self.numbers[at]) for at, size in enumerate(sizes)]

    def middle(self, low, high):
        """The middle atom (lot, number) above low, up to high, of a lot with the most of them."""
        left = [rank[high[at]] - rank[low[at]] for at, rank in enumerate(self.ranks)]
        lot = left.index(max(left))
        return lot, self.numbers[lot][self.ranks[lot][low[lot]] + left[lot] // 2]


def with_number(counts, lot, number):
    """The counts with another number for a lot."""
    return counts[:lot] + (number,) + counts[lot + 1:]


class PaperCase:
    """Two trusts and a wish that are known to be trusts; a box is (low, high, low, high)."""

    def __init__(self, sizes, first, second, wish):
        nobody = (0,) * len(sizes)
        self.sizes = sizes
        self.trusts = {"first": first, "second": second, "wish": wish}
        self.sides = {"first": TrustAtoms(sizes, first), "second": TrustAtoms(sizes, second)}
        self.box = (nobody, sizes, nobody, sizes)
        self.known = {}

    def holds_at(self, word, counts):
        """Whether the trust called word holds at counts."""
        asked = (word, counts)
        if asked not in self.known:
            self.known[asked] = trust_holds(self.sizes, self.trusts[word], counts)
        return self.known[asked]

    def wish_holds(self, one, two):
        """Whether the wish holds at the least common counts of the two."""
        return self.holds_at("wish", common_counts(self.sizes, one, two))

    def is_leaf(self, word, box):
        """Whether the leaf (word,) is right at box."""
        if word == "wish":
            return self.wish_holds(box[0], box[2])
        return not self.holds_at(word, box[PLACES[word] + 1])

    def leaf_of(self, box):
        """A leaf that is right at box, or None."""
        for word in ("first", "second", "wish"):
            if self.is_leaf(word, box):
                return (word,)
        return None

    def is_node(self, thing, box):
        """Whether thing is a node that may stand at box."""
        if not is_tuple(thing, 3) or thing[0] not in ("first", "second"):
            return False
        word, lot, number = thing
        if not is_integer(lot) or not is_integer(number):
            return False
        if (lot, number) not in self.sides[word].atoms:
            return False
        at = PLACES[word]
        return box[at][lot] < number <= box[at + 1][lot]

    def halves(self, node, box):
        """The boxes of the trees for less and for more of a node at box."""
        word, lot, number = node
        low = PLACES[word]
        high = low + 1
        less = box[:high] + (with_number(box[high], lot, number - 1),) + box[high + 1:]
        more = box[:low] + (with_number(box[low], lot, number),) + box[low + 1:]
        return less, more
