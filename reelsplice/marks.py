"""Marked rows: rows with the pair that one frame of a head has (point [24]).

In a layer of them each mark has a dict by the numbers of runs, with the pairs
of one way that leads to the row.
"""

from reelsplice.pairs import is_pair
from reelsplice.plans import FIRST_RUNS
from reelsplice.rows import parts_of_row


def next_marked(plan, j, k, layer):
    """The layer of the marked rows at j + 1 to which steps lead from a layer at j, with marks for frame k."""
    found = {}
    for mark, part in layer.items():
        for r in range(len(plan.stock)):
            moves = plan.moves(j, r, part)
            for runs, way in part.items():
                for place, after in moves[runs]:
                    pair = (r, place)
                    found.setdefault(pair if j == k else mark, {}).setdefault(after, way + (pair,))
    return found


def marked_layers(plan, k):
    """The layers of all marked rows that steps lead to from the first row."""
    layers = [{None: {FIRST_RUNS: ()}}]
    for j in range(plan.frames):
        layers.append(next_marked(plan, j, k, layers[j]))
    return layers


def marked_rows(plan, layer):
    """The marked rows of a layer, each with the pairs of a way that leads to it."""
    return [
        ((plan.numbering.runs[runs], ()), mark, way)
        for mark, part in layer.items()
        for runs, way in part.items()
    ]


def is_mark(plan, j, k, value):
    """Whether any value is a mark for frame k at j."""
    return is_pair(plan.stock, value) if j > k else value is None


def marked_layer_of(plan, j, k, value):
    """The layer, without ways, of a list of marked rows at j, or None if any value is no such list or has one twice."""
    if not isinstance(value, list):
        return None
    layer = {}
    for marked in value:
        if not isinstance(marked, tuple) or len(marked) != 2:
            return None
        row, mark = marked
        parts = parts_of_row(plan, j, row)
        if parts is None or not is_mark(plan, j, k, mark):
            return None
        runs = parts[1]
        part = layer.setdefault(mark, {})
        if runs in part:
            return None
        part[runs] = ()
    return layer


def are_in(layer, other):
    """Whether the marked rows of a layer are in another one."""
    return all([runs in other.get(mark, {}) for mark, part in layer.items() for runs in part])


def marked_layers_of(plan, k, value):
    """The layers, without ways, of a marked table, or None if any value is none."""
    if not isinstance(value, list) or len(value) != plan.frames + 1:
        return None
    layers = [marked_layer_of(plan, j, k, marked) for j, marked in enumerate(value)]
    if None in layers or layers[0] != {None: {FIRST_RUNS: ()}}:
        return None
    if not all([are_in(next_marked(plan, j, k, layers[j]), layers[j + 1]) for j in range(plan.frames)]):
        return None
    return layers
