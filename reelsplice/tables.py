"""Stage 4: tables, which show that there is no cut (points [8] and [9])."""

from reelsplice.layers import ends_of, reached, rows_of
from reelsplice.plans import FIRST_RUNS, Plan
from reelsplice.rows import parts_of_row


def first_row(case):
    """The row at 0 without used frames."""
    return Plan(case).first


def steps(case, k, row):
    """The steps from a row at k, ascending, as tuples (reel, place, row behind it)."""
    plan = Plan(case)
    return plan.steps(k, row) if k < plan.frames else []


def ends(case, row):
    """Whether a row at the number of frames ends."""
    plan = Plan(case)
    return plan.ends(plan.numbering.number_of(row[0]))


def find_table(case):
    """The table of all rows that steps lead to, or None if there is a cut."""
    plan = Plan(case)
    layers = reached(plan)
    if ends_of(plan, layers[plan.frames]):
        return None
    return [rows_of(plan, layer) for layer in layers]


def layer_of(plan, k, value):
    """The layer of a list of rows at k, or None if any value is no such list or has one twice."""
    if not isinstance(value, list):
        return None
    layer = {}
    for row in value:
        parts = parts_of_row(plan, k, row)
        if parts is None:
            return None
        kept, runs = parts
        part = layer.setdefault(kept, {})
        if runs in part:
            return None
        part[runs] = True
    return layer


def leads_into(plan, k, layer, following):
    """Whether each step from a layer at k leads to a row of the following one."""
    for kept, part in layer.items():
        for r, kept_after in plan.choices(k, kept):
            target = following.get(kept_after, {})
            moves = plan.moves(k, r, part)
            for runs in part:
                if not all([after in target for _, after in moves[runs]]):
                    return False
    return True


def layers_of(plan, value):
    """The layers of lists with the first row in which each step leads on, or None if any value is no such lists."""
    if not isinstance(value, list) or len(value) != plan.frames + 1:
        return None
    layers = [layer_of(plan, k, rows) for k, rows in enumerate(value)]
    if None in layers or FIRST_RUNS not in layers[0].get((), {}):
        return None
    if not all([leads_into(plan, k, layers[k], layers[k + 1]) for k in range(plan.frames)]):
        return None
    return layers


def is_table(case, value):
    """Whether any value is a table of a case."""
    plan = Plan(case)
    layers = layers_of(plan, value)
    return layers is not None and not ends_of(plan, layers[plan.frames])
