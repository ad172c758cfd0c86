"""Rows of any values: whether they are rows of a case, and their parts in its layers (points [8] and [11])."""

from reelsplice.kinds import are_integers
from reelsplice.runs import is_run


def number_of_runs(numbering, value):
    """The number of any value that is runs of a stock, or None."""
    stock = numbering.stock
    if not isinstance(value, tuple) or len(value) != len(stock):
        return None
    for run in value:
        if not are_integers(run, 3):
            return None
    # only what is of integers throughout may be looked up, since True == 1
    number = numbering.numbers.get(value)
    if number is None and all([is_run(reel, run) for reel, run in zip(stock, value)]):
        return numbering.number_of(value)
    return number


def are_kept(stock, value):
    """Whether any value is a tuple of frames, each with a reel of a stock."""
    if not isinstance(value, tuple):
        return False
    for pair in value:
        if not are_integers(pair, 2) or not 0 <= pair[1] < len(stock):
            return False
    return True


def parts_of(plan, value):
    """What any value keeps and the number of its runs, if it has the form of a row, else None."""
    if not isinstance(value, tuple) or len(value) != 2:
        return None
    runs, kept = value
    number = number_of_runs(plan.numbering, runs)
    return None if number is None or not are_kept(plan.stock, kept) else (kept, number)


def parts_of_row(plan, k, value):
    """What any value keeps and the number of its runs, if it is a row at k, else None."""
    parts = parts_of(plan, value)
    if parts is None:
        return None
    kept, number = parts
    return parts if plan.numbering.used[number] == k and [j for j, _ in kept] == plan.looked_at[k] else None


def parts_of_loose_row(plan, k, value):
    """What any value keeps and the number of its runs, if it is a loose row at k, else None."""
    parts = parts_of(plan, value)
    if parts is None:
        return None
    kept, number = parts
    frames = [j for j, _ in kept]
    if plan.numbering.used[number] > k or frames != [j for j in plan.looked_at[k] if j in frames]:
        return None
    return parts
