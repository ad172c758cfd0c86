"""Stage 12: reading on (point [17])."""

from reelsplice.counts import pair_counts


def merged(tape, other):
    """The merged tape of two tapes with as many frames."""
    return tuple([merged_frame(frame, further) for frame, further in zip(tape, other)])


def merged_frame(frame, further):
    """What two frames come to: the letters that fit both."""
    if frame == "?":
        return further
    if further == "?":
        return frame
    return "".join([sign for sign in frame if sign in further])


def merged_at(tape, k, frame):
    """A tape with its frame k merged with a frame."""
    return tape[:k] + (merged_frame(tape[k], frame),) + tape[k + 1:]


def sign_counts(case, k):
    """A dict from each sign that frame k has by some cut to the number of cuts by which it has it."""
    return by_signs(case[0], pair_counts(case)[k])


def best_frame(case):
    """The first frame with two or more signs of which the one of the most cuts has the fewest, or None."""
    best, least = None, None
    for k, counts in enumerate(pair_counts(case)):
        signs = by_signs(case[0], counts)
        if len(signs) > 1:
            greatest = max(signs.values())
            if best is None or greatest < least:
                best, least = k, greatest
    return best


def by_signs(stock, counts):
    """A dict from the signs of some pairs to the numbers of cuts that a dict tells of the pairs, added up."""
    found = {}
    for (r, place), many in counts.items():
        sign = stock[r][0][place]
        found[sign] = found.get(sign, 0) + many
    return found
