"""Stage 5: counts; cuts by their numbers in ascending order."""

from reelsplice.layers import ends_of, reached
from reelsplice.plans import Plan


def count_cuts(case):
    """The number of cuts of a case."""
    plan = Plan(case)
    return sum([many for _, many in ends_of(plan, reached(plan)[plan.frames])])


def nth_cut(case, n):
    """The cut before which there are just n in ascending order, or None."""
    plan = Plan(case)
    ways = ways_to_end(plan, reached(plan))
    if n >= many_behind(plan, ways, 0, plan.first):
        return None
    row, pairs, left = plan.first, [], n
    for k in range(plan.frames):
        for r, place, after in plan.steps(k, row):
            many = many_behind(plan, ways, k + 1, after)
            if left < many:
                row = after
                pairs.append((r, place))
                break
            left -= many
    return tuple(pairs)


def number_of(case, cut):
    """How many cuts there are before a cut in ascending order."""
    plan = Plan(case)
    ways = ways_to_end(plan, reached(plan))
    row, number = plan.first, 0
    for k, pair in enumerate(cut):
        for r, place, after in plan.steps(k, row):
            if (r, place) == pair:
                row = after
                break
            number += many_behind(plan, ways, k + 1, after)
    return number


def many_behind(plan, ways, k, row):
    """In how many ways a row at k comes to an end."""
    runs, kept = row
    return ways[k][kept][plan.numbering.number_of(runs)]


def ways_to_end(plan, layers):
    """The layers of the rows that are reached, with the number of ways in which each comes to an end."""
    last = {kept: {runs: 1 if plan.ends(runs) else 0 for runs in part} for kept, part in layers[plan.frames].items()}
    return ways_into(plan, layers, last)


def ways_into(plan, layers, last):
    """The layers of the rows that are reached, each with its number of ways, by the numbers of the last layer."""
    ways = [last]
    for k in reversed(range(plan.frames)):
        ways.append(ways_from(plan, k, layers[k], ways[-1]))
    return ways[::-1]


def ways_from(plan, k, layer, following):
    """A layer at k with the number of ways in which each row comes to an end, by those of the following layer."""
    found = {}
    for kept, part in layer.items():
        ways = {runs: 0 for runs in part}
        for r, kept_after in plan.choices(k, kept):
            target = following[kept_after]
            moves = plan.moves(k, r, part)
            for runs in part:
                for _, after in moves[runs]:
                    ways[runs] += target[after]
        found[kept] = ways
    return found


def pair_counts(case):
    """For each frame a dict from the pairs that a cut has for it to the number of cuts with them."""
    plan = Plan(case)
    layers = reached(plan)
    ways = ways_to_end(plan, layers)
    return [pair_counts_at(plan, k, layers[k], ways[k + 1]) for k in range(plan.frames)]


def pair_counts_at(plan, k, layer, following):
    """A dict from the pairs by which frame k can be taken to the number of cuts with them."""
    found = {}
    for kept, part in layer.items():
        for r, kept_after in plan.choices(k, kept):
            target = following[kept_after]
            moves = plan.moves(k, r, part)
            for runs, many in part.items():
                for place, after in moves[runs]:
                    if target[after] > 0:
                        found[(r, place)] = found.get((r, place), 0) + many * target[after]
    return found
