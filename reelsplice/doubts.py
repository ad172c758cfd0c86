"""Stage 18: which frames of a head are sure (point [24])."""

from reelsplice.counts import pair_counts_at, ways_into
from reelsplice.heads import can_end_within, plan_of
from reelsplice.layers import reached
from reelsplice.marks import marked_layers, marked_layers_of, marked_rows
from reelsplice.wholes import whole_behind


def pairs_by_frame(watch, head):
    """For each frame of a head the ascending list of the pairs that whole cuts have for it."""
    plan = plan_of(watch, head)
    layers = reached(plan)
    last = {
        kept: {runs: 1 if can_end_within(watch, (plan.numbering.runs[runs], kept)) else 0 for runs in part}
        for kept, part in layers[plan.frames].items()
    }
    ways = ways_into(plan, layers, last)
    return [sorted(pair_counts_at(plan, k, layers[k], ways[k + 1])) for k in range(plan.frames)]


def pairs_at(watch, head, k):
    """The pairs that whole cuts have at frame k, ascending."""
    return pairs_by_frame(watch, head)[k]


def verdict(watch, head, k):
    """Whether a head is 'dead', or its frame k is 'sure' or in 'doubt'."""
    many = len(pairs_at(watch, head, k))
    if many == 0:
        return "dead"
    return "sure" if many == 1 else "doubt"


def find_marked(watch, head, k):
    """The marked table of all marked rows that steps lead to."""
    plan = plan_of(watch, head)
    return [[(row, mark) for row, mark, _ in marked_rows(plan, layer)] for layer in marked_layers(plan, k)]


def pairs_shown(watch, head, k, value):
    """The pairs that any value shows as a marked table, ascending, or None if it is none."""
    plan = plan_of(watch, head)
    layers = marked_layers_of(plan, k, value)
    if layers is None:
        return None
    return sorted(set([mark for row, mark, _ in marked_rows(plan, layers[-1]) if can_end_within(watch, row)]))


def live_rows(watch, head, k):
    """All marked rows behind a head that can still end within the watch, each with the pairs of a way to it."""
    plan = plan_of(watch, head)
    last = marked_layers(plan, k)[-1]
    return [(row, mark, way) for row, mark, way in marked_rows(plan, last) if can_end_within(watch, row)]


def find_parted(watch, head, k):
    """Two whole cuts that differ at frame k, the lesser one first, or None if there are none."""
    cuts = {}
    for row, mark, way in live_rows(watch, head, k):
        if mark not in cuts:
            cuts[mark] = whole_behind(watch, row, way)
        if len(cuts) == 2:
            return tuple(sorted(cuts.values()))
    return None
