"""What stairs are, and reckoning with counts and stairs known to be such."""

from assentwhole.countrules import counts_fault, is_below


def is_raised(stair, counts):
    """Whether some member of stair is below counts."""
    for member in stair:
        if is_below(member, counts):
            return True
    return False


def stair_fault(sizes, thing):
    """The first member that is wrong, -1 for all of thing, or None."""
    if not isinstance(thing, tuple):
        return -1
    for at, member in enumerate(thing):
        if counts_fault(sizes, member) is not None:
            return at
        if at > 0 and not thing[at - 1] < member:
            return at
        if is_raised(thing[:at], member):
            return at
    return None


def are_stairs(sizes, thing):
    """Whether thing is a tuple of stairs."""
    return isinstance(thing, tuple) and all(stair_fault(sizes, stair) is None for stair in thing)


def upto_rows(rows, lot):
    """For each number of this lot in rows, the rows with no greater one, as bits."""
    having = {}
    for at, row in enumerate(rows):
        having[row[lot]] = having.get(row[lot], 0) | (1 << at)
    bits = 0
    found = {}
    for number in sorted(having):
        bits |= having[number]
        found[number] = bits
    return found


def least_members(counts):
    """The stair of all that is above some of counts."""
    rows = sorted(set(counts))
    if not rows:
        return ()
    upto = [upto_rows(rows, lot) for lot in range(len(rows[0]))]
    found = []
    for at, row in enumerate(rows):
        bits = upto[0][row[0]]
        for lot, number in enumerate(row):
            bits &= upto[lot][number]
        # The bits left are the rows below this one: it stays if it is the only one.
        if bits == 1 << at:
            found.append(row)
    return tuple(found)
