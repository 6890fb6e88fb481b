"""Verdicts: courses in which settled rolls part, or trees that there are none."""

from assentwhole.courses import course_done
from assentwhole.crowdjoins import has_houses, less_houses, no_houses
from assentwhole.crowds import check_crowd, crowd_counts, crowd_fault
from assentwhole.entrylists import entries_in, places_of
from assentwhole.lots import sizes_of
from assentwhole.mirrors import beyond
from assentwhole.pactchecks import check_pact
from assentwhole.pactparts import trust_at
from assentwhole.papercases import PaperCase
from assentwhole.paperchecks import is_closed
from assentwhole.papers import paper_of
from assentwhole.splitcourses import split_moves
from assentwhole.values import is_tuple


def entry_case(pact, entry, wish):
    """What the paper of an entry is about: its two trusts, and a wish."""
    one, two = places_of(entry)
    return PaperCase(sizes_of(pact[0]), trust_at(pact, *one), trust_at(pact, *two), wish)


def are_trees(pact, fall, trees):
    """Whether trees has, for each entry, the tree of a closed paper for what is beyond fall."""
    entries = entries_in(pact)
    if not is_tuple(trees, len(entries)):
        return False
    wish = beyond(pact[0], crowd_counts(fall))
    return all(is_closed(entry_case(pact, entry, wish), tree) for entry, tree in zip(entries, trees))


def is_splitting(pact, fall, liars, moves):
    """Whether settled rolls part behind moves, all fallen in fall."""
    if crowd_fault(sizes_of(pact[0]), liars) is not None:
        return False
    if pact[1] == "plain" and has_houses(liars):
        return False
    run = course_done(pact, liars, moves)
    if run is None or run.parted() is None:
        return False
    # Liars are among the fallen.
    return not has_houses(less_houses(pact[0], run.fallen(), fall))


def verdict(pact, fall):
    """A verdict that is_verdict accepts."""
    check_pact(pact)
    check_crowd(pact[0], fall)
    moves = split_moves(pact, fall)
    if moves is not None:
        return "splits", no_houses(pact[0]), moves
    wish = beyond(pact[0], crowd_counts(fall))
    return "one", tuple(paper_of(entry_case(pact, entry, wish))[1] for entry in entries_in(pact))


def is_verdict(pact, fall, thing):
    """Whether thing is a verdict for fall."""
    check_pact(pact)
    check_crowd(pact[0], fall)
    if is_tuple(thing, 3) and thing[0] == "splits":
        return is_splitting(pact, fall, thing[1], thing[2])
    return is_tuple(thing, 2) and thing[0] == "one" and are_trees(pact, fall, thing[1])
