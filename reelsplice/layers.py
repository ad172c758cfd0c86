"""Layers: the rows of a case at each k, as dicts from what is kept to dicts by runs.

Many rows differ in what is kept alone. So what the runs allow is asked once
for all of them, and the rows themselves are put together only at the end.
"""


def next_layer(plan, k, layer):
    """The rows at k + 1 to which steps lead from a layer at k."""
    found = {}
    for kept, part in layer.items():
        for r, kept_after in plan.choices(k, kept):
            target = found.setdefault(kept_after, {})
            for runs in part:
                for _, after in plan.moves(k, r, runs):
                    target[after] = True
    return found


def reached(plan):
    """The layers of all rows that steps lead to from the first row."""
    layers = [{(): {plan.first_runs: True}}]
    for k in range(plan.frames):
        layers.append(next_layer(plan, k, layers[k]))
    return layers


def rows_of(layer):
    """The rows of a layer."""
    return [(runs, kept) for kept, part in layer.items() for runs in part]


def ending_row(plan, layer):
    """A row of the last layer that ends, or None."""
    for kept, part in layer.items():
        for runs in part:
            if plan.ends(runs):
                return (runs, kept)
    return None


def keep_lower(target, runs, cost):
    """Gives runs a cost unless they have a lower one."""
    if runs not in target or cost < target[runs]:
        target[runs] = cost


def next_costs(plan, k, layer):
    """The loose rows at k + 1 to which loose steps lead from a layer at k, with the least costs."""
    found = {}
    for kept, part in layer.items():
        left_out = found.setdefault(plan.kept_without(k, kept), {})
        for runs, cost in part.items():
            keep_lower(left_out, runs, cost + 1)
        for r, kept_after in plan.choices(k, kept):
            target = found.setdefault(kept_after, {})
            for runs, cost in part.items():
                for _, after in plan.moves(k, r, runs):
                    keep_lower(target, after, cost)
    return found


def least_costs(plan):
    """The layers of all loose rows that loose steps lead to from the first row, with the least costs."""
    layers = [{(): {plan.first_runs: 0}}]
    for k in range(plan.frames):
        layers.append(next_costs(plan, k, layers[k]))
    return layers
