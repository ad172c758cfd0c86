"""Stage 2: stocks, tapes, sayings and cases (points [4], [5] and [6])."""

from reelsplice.kinds import is_below

MOST_SIGNS = 10
MOST_REELS = 4
MOST_WAYS = 600
MOST_FRAMES = 16
MOST_SAYINGS = 4
ABOUT_FRAMES = ("same", "apart")
ABOUT_REELS = ("of", "off")
ALIKE = ("same", "of")


def are_letters(text):
    """Whether a string has letters only, that is a to z."""
    return all(["a" <= sign <= "z" for sign in text])


def is_reel(value):
    """Whether any value is a reel."""
    if not isinstance(value, tuple) or len(value) != 3:
        return False
    signs, loss, turns = value
    if not isinstance(signs, str) or not 1 <= len(signs) <= MOST_SIGNS or not are_letters(signs):
        return False
    return is_below(loss, len(signs) + 1) and isinstance(turns, bool)


def ways_of(reel):
    """The factor by which a reel counts towards the size of a stock."""
    signs, loss, turns = reel
    return len(signs) * (loss + 1) * (2 if turns else 1)


def is_stock(value):
    """Whether any value is a stock."""
    if not isinstance(value, tuple) or not 1 <= len(value) <= MOST_REELS:
        return False
    ways = 1
    for reel in value:
        if not is_reel(reel):
            return False
        ways = ways * ways_of(reel)
    return ways <= MOST_WAYS


def is_frame(value):
    """Whether any value is a frame."""
    if not isinstance(value, str):
        return False
    if value == "?":
        return True
    return are_letters(value) and all([value[k - 1] < value[k] for k in range(1, len(value))])


def is_tape(value):
    """Whether any value is a tape."""
    if not isinstance(value, tuple) or len(value) > MOST_FRAMES:
        return False
    return all([is_frame(frame) for frame in value])


def is_saying(frames, reels, value):
    """Whether any value is a saying about so many frames and reels."""
    if not isinstance(value, tuple) or len(value) != 3:
        return False
    word, j, other = value
    if not is_below(j, frames):
        return False
    if word in ABOUT_FRAMES:
        return is_below(other, frames) and j < other
    return word in ABOUT_REELS and is_below(other, reels)


def agrees(word, reel, other):
    """Whether two reels are as a saying's word asks; where one is not known (None), nothing is asked."""
    return reel is None or other is None or (reel == other) == (word in ALIKE)


def is_case(value):
    """Whether any value is a case."""
    if not isinstance(value, tuple) or len(value) != 3:
        return False
    stock, tape, sayings = value
    if not is_stock(stock) or not is_tape(tape):
        return False
    if not isinstance(sayings, tuple) or len(sayings) > MOST_SAYINGS:
        return False
    return all([is_saying(len(tape), len(stock), saying) for saying in sayings])
