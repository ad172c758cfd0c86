"""Stage 6: what is possible for each frame."""

from reelsplice.counts import ways_to_end
from reelsplice.plans import Plan


def possible(case):
    """For each frame the ascending list of the pairs that a cut has for it."""
    plan = Plan(case)
    ways = ways_to_end(plan)
    return [pairs_at(plan, k, ways[k], ways[k + 1]) for k in range(plan.frames)]


def signs_of(case):
    """For each frame the ascending string of the signs that it has by some cut."""
    stock = case[0]
    return tuple(["".join(sorted(set([stock[r][0][p] for r, p in pairs]))) for pairs in possible(case)])


def sure_frames(case):
    """The ascending list of the frames that have the same pair in all cuts; [] if there is no cut."""
    return [k for k, pairs in enumerate(possible(case)) if len(pairs) == 1]


def pairs_at(plan, k, layer, following):
    """The pairs, ascending, of the steps from a layer at k to rows that come to an end."""
    pairs = set()
    for kept, part in layer.items():
        for r, kept_after in plan.choices(k, kept):
            target = following[kept_after]
            for runs in part:
                for place, after in plan.moves(k, r, runs):
                    if target[after] > 0:
                        pairs.add((r, place))
    return sorted(pairs)
