"""The rules of loose and of mending steps (points [11] and [13])."""

from reelsplice.plans import Plan
from reelsplice.rows import parts_of_loose_row


class LooseRules:
    """Loose rows, in groups by what they keep, with the price of a stranger and that of a misread frame.

    Where no frame may be misread, that price is None.
    """

    def __init__(self, case, stranger, misread):
        self.plan = Plan(case)
        self.first = ()
        self.stranger = stranger
        self.misread = misread

    def ways(self, k, group):
        """The steps from the rows of a group at k."""
        choices = self.plan.choices(k, group)
        found = [(None, True, self.plan.kept_without(k, group), self.stranger)]
        found.extend([(r, True, kept_after, 0) for r, kept_after in choices])
        if self.misread is not None:
            found.extend([(r, False, kept_after, self.misread) for r, kept_after in choices])
        return found

    def row_of(self, group, runs):
        """The row of a group with these runs."""
        return (self.plan.numbering.runs[runs], group)

    def parts_at(self, k, value):
        """The group and the runs of any value that is a loose row at k, or None."""
        return parts_of_loose_row(self.plan, k, value)
