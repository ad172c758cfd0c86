"""Stage 19: longest doubts and twins (points [25] and [26])."""

from reelsplice.cases import MOST_FRAMES
from reelsplice.doubts import live_rows
from reelsplice.heads import head_to, lengths_behind, plan_of
from reelsplice.rows import parts_of_row
from reelsplice.wholes import open_plan, open_steps, whole_behind


def note(found, row, way, other, other_way):
    """Notes a pair of rows, the lesser one first, each with the pairs of a way that leads to it."""
    if other < row:
        found.setdefault((other, row), (other_way, way))
    else:
        found.setdefault((row, other), (way, other_way))


def first_pairs(watch, head, k):
    """The pairs of rows behind a head that have different pairs at frame k, with their ways."""
    rows = live_rows(watch, head, k)
    found = {}
    for row, mark, way in rows:
        for other, other_mark, other_way in rows:
            if mark < other_mark:
                note(found, row, way, other, other_way)
    return found


def next_pairs(watch, pairs):
    """The pairs of rows to which each two steps with one sign lead from pairs of rows, with their ways."""
    stock = watch[0]
    plan = open_plan(watch)
    found = {}
    for (row, other), (way, other_way) in pairs.items():
        other_steps = open_steps(plan, watch, other)
        for r, place, after in open_steps(plan, watch, row):
            for s, other_place, other_after in other_steps:
                if stock[r][0][place] == stock[s][0][other_place]:
                    note(found, after, way + ((r, place),), other_after, other_way + ((s, other_place),))
    return found


def pair_layers(watch, head, k):
    """The pairs of rows for the frames of a head, for one more and so on, as long as there are any."""
    layers = []
    pairs = first_pairs(watch, head, k)
    while pairs:
        layers.append(pairs)
        pairs = next_pairs(watch, pairs)
    return layers


def longest_doubt(watch, head, k):
    """The longest doubt of frame k, or None if it is not in doubt."""
    layers = pair_layers(watch, head, k)
    return len(layers) - 1 if layers else None


def find_doubt(watch, head, k):
    """Two whole cuts for the longest doubt of frame k, the lesser one first, or None if it is not in doubt."""
    layers = pair_layers(watch, head, k)
    if not layers:
        return None
    rows, ways = list(layers[-1].items())[0]
    return tuple(sorted([whole_behind(watch, row, way) for row, way in zip(rows, ways)]))


def find_twins(watch, head, k):
    """Twins for frame k, the lesser one first, or None if there are none."""
    for pairs in pair_layers(watch, head, k):
        for rows, ways in pairs.items():
            if all([ends_now(watch, row, way) for row, way in zip(rows, ways)]):
                return tuple(sorted(ways))
    return None


def ends_now(watch, row, way):
    """Whether a way to a row is a whole cut."""
    return lengths_behind(watch, row)[0] == len(way)


def find_pair_table(watch, head, k):
    """The pair table of all pairs of rows that steps lead to; [[]] if frame k is not in doubt."""
    return [list(pairs) for pairs in pair_layers(watch, head, k)] or [[]]


def is_row_pair(plan, frames, value):
    """Whether any value is a pair of rows for so many frames, the lesser one first."""
    if not isinstance(value, tuple) or len(value) != 2:
        return False
    if None in [parts_of_row(plan, frames, row) for row in value]:
        return False
    return value[0] <= value[1]


def pairs_of(plan, frames, value):
    """The pairs, without ways, of a list of pairs of rows for so many frames, or None if any value is none."""
    if not isinstance(value, list):
        return None
    pairs = {}
    for rows in value:
        if not is_row_pair(plan, frames, rows) or rows in pairs:
            return None
        pairs[rows] = ((), ())
    return pairs


def is_pair_table(watch, head, k, value):
    """Whether any value is a pair table."""
    if not isinstance(value, list) or not 1 <= len(value) <= MOST_FRAMES + 1 - len(head):
        return False
    plan = plan_of(watch, head_to(head, MOST_FRAMES))
    layers = [pairs_of(plan, len(head) + i, part) for i, part in enumerate(value)]
    if None in layers:
        return False
    needed = [first_pairs(watch, head, k)] + [next_pairs(watch, pairs) for pairs in layers]
    return all([rows in pairs for found, pairs in zip(needed, layers + [{}]) for rows in found])
