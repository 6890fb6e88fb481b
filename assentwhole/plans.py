"""Plans: the four moves by which a crowd settles a deed."""

from assentwhole.deeds import charter_told, is_do
from assentwhole.errors import NotUsable
from assentwhole.stretches import require_run, require_team


def enough_steps(book):
    """The steps whose trusts a crowd has to be in to suffice."""
    return ("ask", "vote") if book.base_pact[1] == "plain" else ("ask", "echo", "vote")


def suffices(book, charter, kind, crowd):
    """Whether crowd is in enough of charter for kind."""
    return all(book.takes(step, charter, kind, crowd) for step in enough_steps(book))


def least_kind(book, charter, crowd):
    """The least kind for which crowd suffices at charter, or None."""
    for kind in range(len(book.base_pact[3][charter])):
        if suffices(book, charter, kind, crowd):
            return kind
    return None


def free_reign(book, above, kind):
    """The least reign of this kind above a number that nothing has used, and that is not gone."""
    spent = {reign: True for reign in book.used() + list(book.gone)}
    kinds = len(book.base_pact[3][0])
    reign = above + 1
    while reign % kinds != kind:
        reign += 1
    while reign in spent:
        reign += kinds
    return reign


def plan_moves(book, crowd, reign, deed):
    """The moves by which crowd settles deed in reign behind its best roll."""
    base = book.best_roll(crowd)
    roll = base + (deed,)
    if book.base_pact[1] == "plain":
        return (
            ("answer", reign, crowd), ("take", reign, crowd, None), ("write", reign, deed),
            ("store", reign, len(roll), crowd),
        )
    return (
        ("answer", reign, crowd), ("lay", reign, crowd, None, base), ("echo", reign, base, roll, crowd),
        ("lock", reign, base, roll, crowd),
    )


def require_task(run, crowd, deed):
    """The errors of what is no run, no team of it, or no deed, or a change."""
    require_run(run)
    require_team(run, crowd)
    if not is_do(deed):
        raise NotUsable("deed")


def plan_of(run, crowd, deed):
    """The plan of crowd for deed in run, or None."""
    require_task(run, crowd, deed)
    book = run._book
    kind = least_kind(book, charter_told(book.best_roll(crowd)), crowd)
    if kind is None:
        return None
    return plan_moves(book, crowd, free_reign(book, book.top_promise(crowd), kind), deed)
