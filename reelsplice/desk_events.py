"""The events of a desk, and the case behind each (point [19])."""

from reelsplice.cases import MOST_SAYINGS, is_frame, is_saying
from reelsplice.kinds import is_below
from reelsplice.reading import merged_at


def begun(stock, frames):
    """The case at the beginning: so many frames '?', without sayings."""
    return (stock, ("?",) * frames, ())


def is_event(case, value):
    """Whether any value is an event of a desk with this case."""
    stock, tape, sayings = case
    if not isinstance(value, tuple):
        return False
    if value[:1] == ("read",):
        return len(value) == 3 and is_below(value[1], len(tape)) and is_frame(value[2])
    if value[:1] == ("say",):
        return len(value) == 2 and is_saying(len(tape), len(stock), value[1]) and len(sayings) < MOST_SAYINGS
    return value[:1] == ("drop",) and len(value) == 2 and is_below(value[1], len(sayings))


def case_behind(case, event):
    """The case behind an event."""
    stock, tape, sayings = case
    if event[0] == "read":
        _, k, frame = event
        return (stock, merged_at(tape, k, frame), sayings)
    if event[0] == "say":
        return (stock, tape, sayings + (event[1],))
    i = event[1]
    return (stock, tape, sayings[:i] + sayings[i + 1:])
