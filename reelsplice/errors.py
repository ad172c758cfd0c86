"""Stage 1: the errors."""

from reelsplice.kinds import copied


class ReelspliceError(ValueError):
    """What all errors of this library have in common."""


class InvalidEvent(ReelspliceError):
    """An event that is none as things stand."""

    def __init__(self, event):
        super().__init__("no event as things stand")
        self.event = copied(event)


class Refused(ReelspliceError):
    """What leaves no cut, with a table that shows it."""

    def __init__(self, table):
        super().__init__("there would be no cut")
        self.table = copied(table)


class InvalidText(ReelspliceError):
    """A text that writes no tape."""
