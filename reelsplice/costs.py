"""Costs of ways through layers, for strangers, mends and splices (points [11], [13] and [15]).

Each of these has rules of its own, an object that tells of its rows: in which
group a row is, which steps lead on from a group and what they cost. A step is
a tuple (r, fitting, group behind it, cost), with None as r where the frame is
left out. A layer is a dict from groups to dicts by runs. All costs with which
a row is reached are kept in one integer, a mask with the bit 1 << cost for
each: so they are joined at once, and the least one is not lost.
"""

from reelsplice.kinds import is_integer
from reelsplice.layers import ends_of
from reelsplice.plans import FIRST_RUNS


def moves_by(plan, k, r, fitting, part):
    """A dict that has, for all runs of a part, the places of a step that takes frame k, or None if it leaves it out.

    Each place, or None, stands with the runs behind it.
    """
    return {runs: [(None, runs)] for runs in part} if r is None else plan.moves(k, r, part, fitting)


def next_costs(rules, k, layer):
    """The rows at k + 1 to which steps lead from a layer at k, with all their costs."""
    found = {}
    for group, part in layer.items():
        for r, fitting, group_after, paid in rules.ways(k, group):
            target = found.setdefault(group_after, {})
            moves = moves_by(rules.plan, k, r, fitting, part)
            for runs, costs in part.items():
                for _, after in moves[runs]:
                    target[after] = target.get(after, 0) | (costs << paid)
    return found


def all_costs(rules, to_end=False):
    """The layers of all rows that steps lead to from the first row, with all their costs.

    If only what comes to an end matters, rows that need more frames for it
    than there are may be left out.
    """
    layers = [{rules.first: {FIRST_RUNS: 1}}]
    for k in range(rules.plan.frames):
        layer = next_costs(rules, k, layers[k])
        layers.append(without_lost(rules.plan, k + 1, layer) if to_end else layer)
    return layers


def without_lost(plan, k, layer):
    """A layer at k without rows that need more frames for an end than there are from k on."""
    return {
        group: {runs: costs for runs, costs in part.items() if plan.needs_at_most(runs, plan.frames - k)}
        for group, part in layer.items()
    }


def has_cost(costs, cost):
    """Whether a cost, perhaps below 0, is one of some costs."""
    return cost >= 0 and (costs >> cost) & 1 == 1


def least(costs):
    """The least one of some costs, or None if there are none."""
    return None if costs == 0 else (costs & -costs).bit_length() - 1


def costs_at_end(rules, layers):
    """All costs with which a row that ends is reached."""
    found = 0
    for _, costs in ends_of(rules.plan, layers[rules.plan.frames]):
        found = found | costs
    return found


def least_at_end(rules):
    """The least cost with which a row that ends is reached, or None."""
    return least(costs_at_end(rules, all_costs(rules, True)))


def least_values(rules):
    """For each k a dict from the rows that are reached to their least costs."""
    return [
        {rules.row_of(group, runs): least(costs) for group, part in layer.items() for runs, costs in part.items()}
        for layer in all_costs(rules)
    ]


def cheapest(rules):
    """The pairs of steps with the least cost to a row that ends, with None for frames left out, or None."""
    layers = all_costs(rules, True)
    cost = least(costs_at_end(rules, layers))
    return None if cost is None else pairs_of_cost(rules, layers, cost)


def pairs_of_cost(rules, layers, cost):
    """The pairs of steps with just this cost to a row that ends, for one of the costs that there are."""
    group, runs = end_of_cost(rules.plan, layers[rules.plan.frames], cost)
    left, pairs = cost, []
    for k in reversed(range(rules.plan.frames)):
        pair, group, runs, left = step_into(rules, k, layers[k], group, runs, left)
        pairs.append(pair)
    return tuple(pairs[::-1])


def end_of_cost(plan, layer, cost):
    """The group and the runs of a row of the last layer that ends and is reached with this cost."""
    for group, part in layer.items():
        for runs, costs in part.items():
            if has_cost(costs, cost) and plan.ends(runs):
                return group, runs
    return None


def step_into(rules, k, layer, group, runs, cost):
    """A step from a layer at k to a row that it reaches with this cost: pair, group and runs before, their cost."""
    for group_before, part in layer.items():
        for r, fitting, group_after, paid in rules.ways(k, group_before):
            if group_after == group:
                moves = moves_by(rules.plan, k, r, fitting, part)
                found = move_into(part, moves, runs, cost - paid)
                if found is not None:
                    place, before = found
                    pair = None if r is None else (r, place)
                    return pair, group_before, before, cost - paid
    return None


def move_into(part, moves, runs, cost):
    """The place of a move to runs, and the runs of a part with this cost from which it leads there, or None."""
    for before, costs in part.items():
        if has_cost(costs, cost):
            for place, after in moves[before]:
                if after == runs:
                    return place, before
    return None


def show(rules, value, number):
    """Whether any value is values, by these rules, that show a number."""
    plan = rules.plan
    if not isinstance(value, list) or len(value) != plan.frames + 1:
        return False
    layers = [layer_of_values(rules, k, part) for k, part in enumerate(value)]
    if None in layers or layers[0] != {rules.first: {FIRST_RUNS: 0}}:
        return False
    if not all([cost >= number for _, cost in ends_of(plan, layers[plan.frames])]):
        return False
    return all([leads_as_low(rules, k, layers[k], layers[k + 1]) for k in range(plan.frames)])


def layer_of_values(rules, k, value):
    """The layer of a dict from rows at k to integers from 0 on, or None if any value is no such dict."""
    if not isinstance(value, dict):
        return None
    layer = {}
    for row, cost in value.items():
        parts = rules.parts_at(k, row)
        if parts is None or not is_integer(cost) or cost < 0:
            return None
        group, runs = parts
        layer.setdefault(group, {})[runs] = cost
    return layer


def leads_as_low(rules, k, layer, following):
    """Whether each step from a layer at k leads to a row of the following one with at most the cost so far."""
    for group, part in layer.items():
        for r, fitting, group_after, paid in rules.ways(k, group):
            target = following.get(group_after, {})
            moves = moves_by(rules.plan, k, r, fitting, part)
            for runs, cost in part.items():
                for _, after in moves[runs]:
                    if after not in target or target[after] > cost + paid:
                        return False
    return True
