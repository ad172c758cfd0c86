"""Stage 17: what can come behind a head."""

from reelsplice.heads import can_end_within, head_to, lengths, plan_of
from reelsplice.layers import reached, rows_of


def next_letters(watch, head):
    """The ascending string of the letters behind which, as one more frame, the head is not dead."""
    stock = watch[0]
    plan = plan_of(watch, head_to(head, len(head) + 1))
    letters = [
        stock[r][0][place]
        for row in rows_of(plan, reached(plan)[len(head)])
        for r, place, after in plan.steps(len(head), row)
        if can_end_within(watch, after)
    ]
    return "".join(sorted(set(letters)))


def can_end(watch, head):
    """Whether some whole cut has no frame behind the head."""
    return len(head) in lengths(watch, head)
