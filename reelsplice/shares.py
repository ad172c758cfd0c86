"""Stage 10: shares, the numbers of frames that the reels give (point [16])."""

from reelsplice.cuts import find_cut
from reelsplice.layers import ends_of, reached
from reelsplice.plans import Plan


def shares(cut, reels):
    """The shares of a cut for a number of reels, at least as many as the cut has."""
    found = [0 for _ in range(reels)]
    for r, _ in cut:
        found[r] += 1
    return tuple(found)


def share_counts(case):
    """A dict from all shares that cuts of a case have to the number of cuts with them."""
    plan = Plan(case)
    found = {}
    for runs, many in ends_of(plan, reached(plan)[plan.frames]):
        used = tuple([run[0] for run in plan.numbering.runs[runs]])
        found[used] = found.get(used, 0) + many
    return found


def cut_of_shares(case, wanted):
    """A cut with these shares, or None if there is none."""
    stock, tape, sayings = case
    if sum(wanted) != len(tape):
        return None
    losses = [len(reel[0]) - many for reel, many in zip(stock, wanted)]
    if not all([0 <= loss <= reel[1] for reel, loss in zip(stock, losses)]):
        return None
    # with no more than these losses each reel gives at least what is wanted, so together just that
    narrower = tuple([(signs, loss, turns) for (signs, _, turns), loss in zip(stock, losses)])
    return find_cut((narrower, tape, sayings))
