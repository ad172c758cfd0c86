"""Stage 13: tapes as texts (point [18])."""

from reelsplice.cases import is_tape
from reelsplice.errors import InvalidText


def write_tape(tape):
    """The text of a tape."""
    return "".join(["[" + frame + "]" for frame in tape])


def read_tape(text):
    """The tape that a text writes; any value that writes none raises InvalidText."""
    if not isinstance(text, str):
        raise InvalidText("a tape is written as a string")
    tape = frames_in(text)
    # what stands outside of the brackets is lost in the frames, and so is a bracket that is not there
    if not is_tape(tape) or write_tape(tape) != text:
        raise InvalidText("a tape is written as its frames, each in brackets")
    return tape


def frames_in(text):
    """The frames of a text, if it writes a tape."""
    return () if text == "" else tuple(text[1:-1].split("]["))
