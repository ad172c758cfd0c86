"""Rows of any values: whether they are rows of a case, and their layers (points [8] and [11])."""

from reelsplice.kinds import are_integers
from reelsplice.runs import is_run


def are_runs(stock, value):
    """Whether any value has a run for each reel of a stock."""
    if not isinstance(value, tuple) or len(value) != len(stock):
        return False
    for reel, run in zip(stock, value):
        if not are_integers(run, 3) or not is_run(reel, run):
            return False
    return True


def are_kept(stock, value):
    """Whether any value is a tuple of frames, each with a reel of a stock."""
    if not isinstance(value, tuple):
        return False
    for pair in value:
        if not are_integers(pair, 2) or not 0 <= pair[1] < len(stock):
            return False
    return True


def has_row_form(stock, value):
    """Whether any value has runs and kept frames, whatever their numbers are."""
    if not isinstance(value, tuple) or len(value) != 2:
        return False
    return are_runs(stock, value[0]) and are_kept(stock, value[1])


def frames_used(row):
    """How many frames the runs of a row have used."""
    return sum([run[0] for run in row[0]])


def frames_kept(row):
    """The frames that a row keeps, in its order."""
    return [j for j, _ in row[1]]


def is_row(plan, k, value):
    """Whether any value is a row at k."""
    return has_row_form(plan.stock, value) and frames_used(value) == k and frames_kept(value) == plan.looked_at[k]


def is_loose_row(plan, k, value):
    """Whether any value is a loose row at k."""
    if not has_row_form(plan.stock, value) or frames_used(value) > k:
        return False
    frames = frames_kept(value)
    return frames == [j for j in plan.looked_at[k] if j in frames]
