"""Stage 3: cuts (point [7])."""

from reelsplice.pairs import go_together, has_pairs, signs_fit
from reelsplice.plans import Plan


def is_cut(case, value):
    """Whether any value is a cut of a case."""
    return has_pairs(case, value) and None not in value and signs_fit(case, value) and go_together(case, value)


def find_cut(case):
    """The first cut of a case in ascending order, or None if there is none."""
    plan = Plan(case)
    barren = [{} for _ in range(plan.frames + 1)]
    pairs = pairs_behind(plan, 0, plan.first, barren)
    return None if pairs is None else tuple(pairs)


def pairs_behind(plan, k, row, barren):
    """The least pairs from frame k on that make a cut behind a row, or None; notes rows that have none."""
    if row in barren[k] or not plan.can_come_out(k, row[0]):
        return None
    if k == plan.frames:
        return []
    for r, place, after in plan.steps(k, row):
        pairs = pairs_behind(plan, k + 1, after, barren)
        if pairs is not None:
            return [(r, place)] + pairs
    barren[k][row] = True
    return None
