"""Stage 14: the desk, which takes readings and sayings as long as there is a cut (point [19])."""

from reelsplice.cases import MOST_SAYINGS, is_frame, is_saying
from reelsplice.counts import pair_counts
from reelsplice.cuts import find_cut
from reelsplice.errors import InvalidEvent, Refused
from reelsplice.kinds import is_below
from reelsplice.reading import merged_frame
from reelsplice.tables import find_table


class Desk:
    """A stock and a tape of so many frames, with what was read and said of them so far."""

    def __init__(self, stock, frames):
        self.states = []
        self.accept(None, (stock, ("?",) * frames, ()))

    def accept(self, event, case):
        """Notes an event, None for the beginning, with the case behind it and a cut; refuses it if there is none."""
        cut = find_cut(case)
        if cut is None:
            raise Refused(find_table(case))
        self.states.append((event, case, cut))

    def read(self, k, frame):
        """Merges frame k with a frame."""
        event = ("read", k, frame)
        stock, tape, sayings = self.case()
        if not is_below(k, len(tape)) or not is_frame(frame):
            raise InvalidEvent(event)
        further = tape[:k] + (merged_frame(tape[k], frame),) + tape[k + 1:]
        self.accept(event, (stock, further, sayings))

    def say(self, saying):
        """Takes a saying more."""
        event = ("say", saying)
        stock, tape, sayings = self.case()
        if not is_saying(len(tape), len(stock), saying) or len(sayings) >= MOST_SAYINGS:
            raise InvalidEvent(event)
        self.accept(event, (stock, tape, sayings + (saying,)))

    def drop(self, i):
        """Lets saying i go."""
        event = ("drop", i)
        stock, tape, sayings = self.case()
        if not is_below(i, len(sayings)):
            raise InvalidEvent(event)
        self.accept(event, (stock, tape, sayings[:i] + sayings[i + 1:]))

    def undo(self):
        """Takes back the last event of the log and returns it; None if there is none."""
        return self.states.pop()[0] if len(self.states) > 1 else None

    def case(self):
        """The present case."""
        return self.states[-1][1]

    def cut(self):
        """The present cut."""
        return self.states[-1][2]

    def possible(self, k):
        """The ascending list of the pairs that a cut has for frame k."""
        case = self.case()
        if not is_below(k, len(case[1])):
            raise InvalidEvent(("possible", k))
        return sorted(pair_counts(case)[k])

    def __eq__(self, other):
        if not isinstance(other, Desk):
            return False
        return self.states == other.states
