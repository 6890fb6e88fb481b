"""Plans done in a run itself."""

from assentwhole.plans import plan_of


def serve(run, crowd, deed):
    """Do the plan of crowd for deed in run; whether there is one."""
    moves = plan_of(run, crowd, deed)
    if moves is None:
        return False
    for move in moves:
        run.do(move)
    return True
