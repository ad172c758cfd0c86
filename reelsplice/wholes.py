"""Frames '?' behind a head: steps that take them, up to the end of a whole cut (point [22])."""

from reelsplice.heads import can_end_within, lengths_behind, plan_of


def open_plan(watch):
    """The plan of the steps that take one frame '?'."""
    return plan_of(watch, ("?",))


def open_steps(plan, watch, row):
    """The steps of an open plan from a row, at any number of frames, to rows that can still end within a watch."""
    return [(r, place, after) for r, place, after in plan.steps(0, row) if can_end_within(watch, after)]


def whole_behind(watch, row, way):
    """A whole cut that begins with the pairs of a way to a row that can still end within a watch."""
    frames = lengths_behind(watch, row)[0]
    exact = (watch[0], frames, frames)
    plan = open_plan(watch)
    while len(way) < frames:
        r, place, row = open_steps(plan, exact, row)[0]
        way = way + ((r, place),)
    return way
