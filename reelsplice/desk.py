"""Stage 14: the desk, which takes readings and sayings as long as there is a cut (point [19])."""

from reelsplice.counts import pair_counts
from reelsplice.cuts import find_cut
from reelsplice.desk_events import begun, case_behind, is_event
from reelsplice.errors import InvalidEvent, Refused
from reelsplice.kinds import is_below
from reelsplice.tables import find_table


class Desk:
    """A stock and a tape of so many frames, with what was read and said of them so far."""

    def __init__(self, stock, frames):
        self.states = []
        self.accept(None, begun(stock, frames))

    def accept(self, event, case):
        """Notes an event, None for the beginning, with the case behind it and a cut; refuses it if there is none."""
        cut = find_cut(case)
        if cut is None:
            raise Refused(find_table(case))
        self.states.append((event, case, cut))

    def make(self, event):
        """Makes an event, or raises what is wrong with it."""
        if not is_event(self.case(), event):
            raise InvalidEvent(event)
        self.accept(event, case_behind(self.case(), event))

    def read(self, k, frame):
        """Merges frame k with a frame."""
        self.make(("read", k, frame))

    def say(self, saying):
        """Takes a saying more."""
        self.make(("say", saying))

    def drop(self, i):
        """Lets saying i go."""
        self.make(("drop", i))

    def undo(self):
        """Takes back the last event of the log and returns it; None if there is none."""
        return self.states.pop()[0] if len(self.states) > 1 else None

    def case(self):
        """The present case."""
        return self.states[-1][1]

    def cut(self):
        """The present cut."""
        return self.states[-1][2]

    def possible(self, k):
        """The ascending list of the pairs that a cut has for frame k."""
        case = self.case()
        if not is_below(k, len(case[1])):
            raise InvalidEvent(("possible", k))
        return sorted(pair_counts(case)[k])

    def __eq__(self, other):
        if not isinstance(other, Desk):
            return False
        return self.states == other.states
