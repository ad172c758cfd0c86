"""Stage 7: strangers, frames that are of no reel (points [10] and [11])."""

from reelsplice.kinds import is_integer
from reelsplice.layers import least_costs
from reelsplice.pairs import go_together, has_pairs, signs_fit
from reelsplice.plans import Plan
from reelsplice.rows import is_loose_row
from reelsplice.runs import UNUSED


def is_loose(case, value):
    """Whether any value is a loose cut of a case."""
    return has_pairs(case, value) and signs_fit(case, value) and go_together(case, value)


def find_loose(case):
    """A loose cut with as few strangers as possible, or None if there is no loose cut."""
    plan = Plan(case)
    layers = least_costs(plan)
    cost = least_at_end(plan, layers[plan.frames])
    if cost is None:
        return None
    row = row_at_end(plan, layers[plan.frames], cost)
    pairs = []
    for k in reversed(range(plan.frames)):
        pair, row, cost = step_into(plan, k, layers[k], row, cost)
        pairs.append(pair)
    return tuple(pairs[::-1])


def fewest_strangers(case):
    """The least number of strangers of a loose cut, or None if there is no loose cut."""
    plan = Plan(case)
    return least_at_end(plan, least_costs(plan)[plan.frames])


def find_values(case):
    """Values that show the fewest strangers, or each number if there is no loose cut."""
    return [
        {(runs, kept): cost for kept, part in layer.items() for runs, cost in part.items()}
        for layer in least_costs(Plan(case))
    ]


def shows(case, value, number):
    """Whether any value is values that show a number."""
    plan = Plan(case)
    if not isinstance(value, list) or len(value) != plan.frames + 1:
        return False
    layers = [layer_of_costs(plan, k, costs) for k, costs in enumerate(value)]
    if None in layers or layers[0] != {(): {plan.first_runs: 0}}:
        return False
    least = least_at_end(plan, layers[plan.frames])
    if least is not None and least < number:
        return False
    return all([leads_as_low(plan, k, layers[k], layers[k + 1]) for k in range(plan.frames)])


def least_at_end(plan, layer):
    """The least cost of a row of the last layer that ends, or None."""
    return min([cost for part in layer.values() for runs, cost in part.items() if plan.ends(runs)], default=None)


def row_at_end(plan, layer, cost):
    """A row of the last layer that ends, with just this cost."""
    for kept, part in layer.items():
        for runs, its_cost in part.items():
            if its_cost == cost and plan.ends(runs):
                return (runs, kept)
    return None


def step_into(plan, k, layer, row, cost):
    """A loose step from a layer at k to a row with its least cost: the pair or None, the row before, its cost."""
    runs, kept = row
    for kept_before, part in layer.items():
        if plan.kept_without(k, kept_before) == kept and part.get(runs) == cost - 1:
            return (None, (runs, kept_before), cost - 1)
        for r, kept_after in plan.choices(k, kept_before):
            if kept_after == kept and runs[r] != UNUSED:
                runs_before = taken_back(plan, k, part, cost, r, runs)
                if runs_before is not None:
                    return ((r, runs[r][1]), (runs_before, kept_before), cost)
    return None


def taken_back(plan, k, part, cost, r, runs):
    """Runs of a part with this cost from which frame k of reel r leads to runs, or None."""
    place = runs[r][1]
    for before, its_cost in part.items():
        if its_cost == cost and (place, runs) in plan.moves(k, r, before):
            return before
    return None


def layer_of_costs(plan, k, value):
    """The layer of a dict from loose rows at k to integers from 0 on, or None if any value is no such dict."""
    if not isinstance(value, dict):
        return None
    layer = {}
    for row, cost in value.items():
        if not is_loose_row(plan, k, row) or not is_integer(cost) or cost < 0:
            return None
        runs, kept = row
        layer.setdefault(kept, {})[runs] = cost
    return layer


def leads_as_low(plan, k, layer, following):
    """Whether each loose step from a layer at k leads to a row of the following one that costs no more."""
    for kept, part in layer.items():
        left_out = following.get(plan.kept_without(k, kept), {})
        for runs, cost in part.items():
            if runs not in left_out or left_out[runs] > cost + 1:
                return False
        for r, kept_after in plan.choices(k, kept):
            target = following.get(kept_after, {})
            for runs, cost in part.items():
                for _, after in plan.moves(k, r, runs):
                    if after not in target or target[after] > cost:
                        return False
    return True
