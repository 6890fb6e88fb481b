"""Settled rolls: a dict of (reign, roll), in the sequence in which they were settled."""

from assentwhole.deeds import begins


def is_sealed_from(sealed, roll, reign):
    """Whether roll begins a settled roll of a reign of at most reign."""
    return any(other <= reign and begins(roll, longer) for other, longer in sealed)


def first_parting(sealed):
    """The least settled one that parts from a lesser one, behind the least of these; or None.

    As long as none part, each begins the longest or is begun by it: so the
    first one that parts from any of those ahead parts from the longest.
    """
    rows = sorted(sealed)
    longest = ()
    for reign, roll in rows:
        if begins(longest, roll):
            longest = roll
        elif not begins(roll, longest):
            return first_apart(rows, roll), (reign, roll)
    return None


def first_apart(rows, roll):
    """The first of rows whose roll parts from this one."""
    for reign, other in rows:
        if not begins(other, roll) and not begins(roll, other):
            return reign, other
    return None
