"""Stretches: runs in which a crowd alone is awake."""

from assentwhole.crowdjoins import has_houses
from assentwhole.crowds import check_crowd
from assentwhole.errors import NotUsable
from assentwhole.plainruns import Plain
from assentwhole.swornruns import Sworn


def require_run(thing):
    """NotUsable if thing is no run."""
    if not isinstance(thing, Plain) and not isinstance(thing, Sworn):
        raise NotUsable("run")


def require_team(run, crowd):
    """BadCrowd or NotUsable if crowd is not some houses that are awake in run, none a liar."""
    book = run._book
    check_crowd(book.lots, crowd)
    if not has_houses(crowd) or book.has_liars(crowd) or book.is_asleep(crowd):
        raise NotUsable("crowd")


def narrow(book, old, crowd):
    """Make the book of a new run that of the stretch of crowd from the run with the old one."""
    book.now = old.now
    book.up = crowd
    book.is_stretch = True
    book.gone = {reign: True for reign in old.used() + list(old.gone)}


def stretch(run, crowd):
    """A new run, the stretch of crowd from run."""
    require_run(run)
    require_team(run, crowd)
    fresh = Sworn(run.pact(), run.liars()) if isinstance(run, Sworn) else Plain(run.pact())
    narrow(fresh._book, run._book, crowd)
    return fresh
