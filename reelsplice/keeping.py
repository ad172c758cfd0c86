"""Kept frames: which sayings are due at a frame and whose reels they look back at (point [8])."""

from reelsplice.cases import ABOUT_FRAMES, agrees


def last_frame(saying):
    """The last frame that a saying names."""
    return saying[2] if saying[0] in ABOUT_FRAMES else saying[1]


def looked_back_at(sayings, k):
    """The frames below k, ascending, that a saying names beside a frame from k on."""
    return sorted(set([saying[1] for saying in sayings if saying[1] < k <= last_frame(saying)]))


def reel_of(kept, j):
    """The reel that frame j is kept with, or None if it is not kept."""
    for frame, r in kept:
        if frame == j:
            return r
    return None


def lets(saying, kept, r):
    """Whether a saying holds if its last frame is of reel r."""
    word, j, other = saying
    return agrees(word, r, reel_of(kept, j) if word in ABOUT_FRAMES else other)


def still_kept(kept, frames):
    """The kept pairs whose frames are among these."""
    return tuple([(j, r) for j, r in kept if j in frames])
