"""Stage 16: heads, of which it is told whether the tape can still go on to its end (points [21], [22] and [23])."""

from reelsplice.cases import MOST_FRAMES, is_stock, ways_of
from reelsplice.cuts import find_cut, is_cut
from reelsplice.kinds import is_below
from reelsplice.layers import reached, rows_of
from reelsplice.plans import Plan
from reelsplice.runs import need, room
from reelsplice.tables import layers_of

MOST_WATCHED = 100


def is_watch(value):
    """Whether any value is a watch."""
    if not isinstance(value, tuple) or len(value) != 3:
        return False
    stock, least, most = value
    if not is_stock(stock) or not is_below(most, MOST_FRAMES + 1) or not is_below(least, most + 1):
        return False
    ways = 1
    for reel in stock:
        ways = ways * (ways_of(reel) + 1)
    return ways <= MOST_WATCHED


def reach(stock, row):
    """The lowest and the highest number of frames that the tape can have behind a row."""
    runs, _ = row
    lowest = sum([run[0] + need(reel, run) for reel, run in zip(stock, runs)])
    highest = sum([run[0] + room(reel, run) for reel, run in zip(stock, runs)])
    return (lowest, highest)


def lengths_behind(watch, row):
    """All numbers of frames within a watch that the tape can have behind a row, ascending."""
    stock, least, most = watch
    lowest, highest = reach(stock, row)
    return list(range(max(lowest, least), min(highest, most) + 1))


def can_end_within(watch, row):
    """Whether a row can still end within a watch."""
    return lengths_behind(watch, row) != []


def plan_of(watch, head):
    """The plan of the steps that take the frames of a head."""
    return Plan((watch[0], head, ()))


def head_to(head, frames):
    """A head with as many frames '?' behind it that it has so many frames."""
    return head + ("?",) * (frames - len(head))


def is_whole(watch, head, value):
    """Whether any value is a whole cut."""
    stock, least, most = watch
    if not isinstance(value, tuple) or not max(least, len(head)) <= len(value) <= most:
        return False
    return is_cut((stock, head_to(head, len(value)), ()), value)


def is_dead_table(watch, head, value):
    """Whether any value is a dead table."""
    plan = plan_of(watch, head)
    layers = layers_of(plan, value)
    return layers is not None and not any([can_end_within(watch, row) for row in value[-1]])


def find_whole(watch, head):
    """The first one of the shortest whole cuts, or None if the head is dead."""
    found = lengths(watch, head)
    return find_cut((watch[0], head_to(head, found[0]), ())) if found else None


def find_dead_table(watch, head):
    """The table of all rows that steps lead to, or None if there is a whole cut."""
    plan = plan_of(watch, head)
    table = [rows_of(plan, layer) for layer in reached(plan)]
    return None if any([can_end_within(watch, row) for row in table[-1]]) else table


def lengths(watch, head):
    """All numbers of frames that whole cuts have, ascending."""
    plan = plan_of(watch, head)
    last = rows_of(plan, reached(plan)[plan.frames])
    return sorted(set([frames for row in last for frames in lengths_behind(watch, row)]))
