"""The atoms of a trust, at which alone it can begin to hold, and their grid."""

from assentwhole.lots import sizes_of
from assentwhole.trustchecks import check_trust, parts_of


def needs_of(counts):
    """The pairs (lot, number) of counts with numbers above 0."""
    return [(at, number) for at, number in enumerate(counts) if number > 0]


def own_atoms(sizes, trust):
    """The atoms that trust gives, its parts left aside."""
    if trust[0] == "lot":
        return [trust[1:]] if 1 <= trust[2] <= sizes[trust[1]] else []
    if trust[0] == "least":
        return [need for member in trust[1] for need in needs_of(member)]
    if trust[0] == "spare":
        return [(at, sizes[at] - number + 1) for member in trust[1] for at, number in needs_of(member)]
    return []


def atoms_in(sizes, trust):
    """The ascending atoms of a trust that is known to be one."""
    found = {}
    waiting = [trust]
    while waiting:
        one = waiting.pop()
        for atom in own_atoms(sizes, one):
            found[atom] = True
        waiting.extend(parts_of(one))
    return tuple(sorted(found))


def atoms_of(lots, trust):
    """The ascending tuple of the atoms of trust."""
    check_trust(lots, trust)
    return atoms_in(sizes_of(lots), trust)


def grid_of(lots, trust):
    """How many counts differ in the atoms that they reach."""
    atoms = atoms_of(lots, trust)
    ranks = [1 for lot in lots]
    for lot, number in atoms:
        ranks[lot] += 1
    points = 1
    for rank in ranks:
        points *= rank
    return points
