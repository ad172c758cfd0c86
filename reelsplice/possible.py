"""Stage 6: what is possible for each frame."""

from reelsplice.counts import pair_counts


def possible(case):
    """For each frame the ascending list of the pairs that a cut has for it."""
    return [sorted(counts) for counts in pair_counts(case)]


def signs_of(case):
    """For each frame the ascending string of the signs that it has by some cut."""
    stock = case[0]
    return tuple(["".join(sorted(set([stock[r][0][p] for r, p in pairs]))) for pairs in possible(case)])


def sure_frames(case):
    """The ascending list of the frames that have the same pair in all cuts; [] if there is no cut."""
    return [k for k, pairs in enumerate(possible(case)) if len(pairs) == 1]
