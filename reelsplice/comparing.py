"""Stage 11: comparing two cases with the same stock and as many frames by their cuts."""

from reelsplice.cuts import find_cut
from reelsplice.pairs import fits
from reelsplice.possible import signs_of

OPPOSITES = {"same": "apart", "apart": "same", "of": "off", "off": "of"}


def find_only(case, other):
    """A cut of the first case that is no cut of the other one, or None if there is none."""
    cut = cut_against_tape(case, other[1])
    return cut_against_sayings(case, other[2]) if cut is None else cut


def implies(case, other):
    """Whether each cut of the first case is one of the other."""
    return find_only(case, other) is None


def same_cuts(case, other):
    """Whether both have the same cuts."""
    return implies(case, other) and implies(other, case)


def narrowed(case):
    """The case with its frames replaced by the signs that they have by some cut."""
    stock, _, sayings = case
    return (stock, signs_of(case), sayings)


def is_within(frame, other):
    """Whether each letter that fits a frame fits the other one."""
    return other == "?" or frame != "?" and all([sign in other for sign in frame])


def cut_against_tape(case, other):
    """A cut of a case with a sign that does not fit its frame of another tape, or None if there is none."""
    stock, tape, sayings = case
    if all([is_within(frame, further) for frame, further in zip(tape, other)]):
        return None
    for k, signs in enumerate(signs_of(case)):
        for sign in signs:
            if not fits(sign, other[k]):
                return find_cut((stock, tape[:k] + (sign,) + tape[k + 1:], sayings))
    return None


def cut_against_sayings(case, others):
    """A cut of a case for which one of some sayings does not hold, or None if there is none."""
    stock, tape, sayings = case
    for saying in others:
        if saying not in sayings:
            word, j, about = saying
            cut = find_cut((stock, tape, sayings + ((OPPOSITES[word], j, about),)))
            if cut is not None:
                return cut
    return None
