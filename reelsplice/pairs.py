"""Pairs of frames: what point [7] asks of a reel and a place for each frame.

A frame may have None in place of its pair; it then counts for nothing, and
neither do the sayings that name it.
"""

from reelsplice.cases import ABOUT_FRAMES, agrees
from reelsplice.kinds import are_integers, is_below


def fits(sign, frame):
    """Whether a letter fits a frame."""
    return frame == "?" or sign in frame


def is_pair(stock, value):
    """Whether any value is a reel of a stock and a place in it."""
    if not are_integers(value, 2):
        return False
    r, p = value
    return is_below(r, len(stock)) and is_below(p, len(stock[r][0]))


def has_pairs(case, value):
    """Whether any value is a tuple with a pair or None for each frame of a case."""
    stock, tape, _ = case
    if not isinstance(value, tuple) or len(value) != len(tape):
        return False
    return all([pair is None or is_pair(stock, pair) for pair in value])


def misread_frames(case, pairs):
    """The frames whose pairs have a sign that does not fit, ascending."""
    stock, tape, _ = case
    return [
        k
        for k, pair in enumerate(pairs)
        if pair is not None and not fits(stock[pair[0]][0][pair[1]], tape[k])
    ]


def signs_fit(case, pairs):
    """Whether the sign of each pair fits its frame."""
    return misread_frames(case, pairs) == []


def ascends(places):
    """Whether places ascend strictly."""
    return all([places[k - 1] < places[k] for k in range(1, len(places))])


def keeps_order(reel, places):
    """Whether a reel's places stand in an order that it allows."""
    return ascends(places) or (reel[2] and ascends(places[::-1]))


def keeps_enough(reel, places):
    """Whether no more places than the reel's loss are missing."""
    return len(reel[0]) - len(places) <= reel[1]


def holds(saying, reels):
    """Whether a saying is true of the reels of the frames."""
    word, j, other = saying
    return agrees(word, reels[j], reels[other] if word in ABOUT_FRAMES else other)


def go_together(case, pairs):
    """Whether the orders, the losses and the sayings of a case are kept."""
    stock, _, sayings = case
    for r, reel in enumerate(stock):
        places = [pair[1] for pair in pairs if pair is not None and pair[0] == r]
        if not keeps_order(reel, places) or not keeps_enough(reel, places):
            return False
    reels = [None if pair is None else pair[0] for pair in pairs]
    return all([holds(saying, reels) for saying in sayings])
