"""Sets of counts in a grid, each set written as one integer."""


def strides_of(columns):
    """For each lot how far apart points are that differ there by one place."""
    strides = []
    points = 1
    for column in reversed(columns):
        strides.append(points)
        points *= len(column)
    return strides[::-1]


class PointGrid:
    """The counts that have, for each lot, one of a few numbers: its points.

    They are numbered as Python sorts them. A set of points is an integer with
    bit n for point n, so that whole sets are joined by & and | at once.
    """

    def __init__(self, columns):
        """columns has for each lot the ascending list of its numbers, 0 first."""
        self.columns = columns
        self.strides = strides_of(columns)
        self.whole = (1 << (self.strides[0] * len(columns[0]))) - 1
        self.reach = [self.reach_of(at) for at in range(len(columns))]

    def reach_of(self, lot):
        """For each number of a lot the points that have at least this there."""
        stride = self.strides[lot]
        length = stride * len(self.columns[lot])
        # The points pass through the column again and again: one bit for each time.
        rounds = self.whole // ((1 << length) - 1)
        found = {}
        for place, number in enumerate(self.columns[lot]):
            low = place * stride
            found[number] = rounds * ((1 << length) - (1 << low))
        return found

    def having(self, lot, number):
        """The points with at least number there, which is in the column or above all of it."""
        return self.reach[lot].get(number, 0)

    def above(self, counts):
        """The points that counts, of numbers of the columns, are below."""
        points = self.whole
        for lot, number in enumerate(counts):
            points &= self.having(lot, number)
        return points

    def point(self, at):
        """Point number at."""
        places = [at // stride for stride in self.strides]
        return tuple(column[place % len(column)] for column, place in zip(self.columns, places))

    def lowest(self, points):
        """The ascending tuple of those of points that have none of the others below."""
        raised = 0
        for lot, column in enumerate(self.columns):
            if len(column) > 1:
                raised |= (points << self.strides[lot]) & self.having(lot, column[1])
        left = points & ~raised
        found = []
        while left:
            at = left.bit_length() - 1
            found.append(self.point(at))
            left ^= 1 << at
        return tuple(found[::-1])
