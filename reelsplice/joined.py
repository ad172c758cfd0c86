"""The rules of the steps from joined rows (point [15])."""

from reelsplice.kinds import is_below
from reelsplice.plans import Plan
from reelsplice.rows import parts_of_row

NO_REEL = -1


class JoinedRules:
    """Joined rows, in groups by what they keep and the reel of the frame before."""

    def __init__(self, case):
        self.plan = Plan(case)
        self.first = ((), NO_REEL)

    def ways(self, k, group):
        """The steps from the rows of a group at k."""
        kept, before = group
        return [
            (r, True, (kept_after, r), 0 if before in (r, NO_REEL) else 1)
            for r, kept_after in self.plan.choices(k, kept)
        ]

    def row_of(self, group, runs):
        """The joined row of a group with these runs."""
        kept, before = group
        return ((self.plan.numbering.runs[runs], kept), before)

    def parts_at(self, k, value):
        """The group and the runs of any value that is a joined row at k, or None."""
        if not isinstance(value, tuple) or len(value) != 2 or not self.can_come_before(k, value[1]):
            return None
        parts = parts_of_row(self.plan, k, value[0])
        if parts is None:
            return None
        kept, runs = parts
        return (kept, value[1]), runs

    def can_come_before(self, k, value):
        """Whether any value stands for the reel of the frame before frame k: at 0 there is none."""
        return is_below(value, len(self.plan.stock)) if k > 0 else value == NO_REEL
