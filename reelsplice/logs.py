"""Stage 15: the logs of desks (point [20])."""

from reelsplice.cuts import is_cut
from reelsplice.desk_events import begun, case_behind, is_event


def log(desk):
    """The events of a desk that are not undone, each with the cut behind it."""
    return [(event, cut) for event, _, cut in desk.states[1:]]


def is_log(stock, frames, value):
    """Whether any value is a log for a stock and a number of frames."""
    if not isinstance(value, list):
        return False
    case = begun(stock, frames)
    for entry in value:
        if not is_entry(case, entry):
            return False
        case = case_behind(case, entry[0])
    return True


def is_entry(case, value):
    """Whether any value is an event of a desk with this case, and a cut of the case behind it."""
    if not isinstance(value, tuple) or len(value) != 2:
        return False
    event, cut = value
    return is_event(case, event) and is_cut(case_behind(case, event), cut)


def replayed(stock, frames, log):
    """The case behind a log."""
    case = begun(stock, frames)
    for event, _ in log:
        case = case_behind(case, event)
    return case
