"""Layers: the rows of a case at each k, as dicts from what is kept to dicts by the numbers of runs.

Many rows differ in what is kept alone. So what the runs allow is asked once
for all of them, and the rows themselves are put together only at the end.
"""

from reelsplice.plans import FIRST_RUNS


def next_layer(plan, k, layer):
    """The rows at k + 1 to which steps lead from a layer at k, each with the number of ways that lead to it."""
    found = {}
    for kept, part in layer.items():
        for r, kept_after in plan.choices(k, kept):
            target = found.setdefault(kept_after, {})
            moves = plan.moves(k, r, part)
            for runs, many in part.items():
                for _, after in moves[runs]:
                    target[after] = target.get(after, 0) + many
    return found


def reached(plan):
    """The layers of all rows that steps lead to from the first row, each with the number of ways that lead to it."""
    layers = [{(): {FIRST_RUNS: 1}}]
    for k in range(plan.frames):
        layers.append(next_layer(plan, k, layers[k]))
    return layers


def rows_of(plan, layer):
    """The rows of a layer."""
    return [(plan.numbering.runs[runs], kept) for kept, part in layer.items() for runs in part]


def ends_of(plan, layer):
    """The runs of the rows of the last layer that end, each with what the layer tells of the row."""
    return [(runs, told) for part in layer.values() for runs, told in part.items() if plan.ends(runs)]
