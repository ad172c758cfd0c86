"""Runs: how far a reel has come, as point [8] tells them."""

UNUSED = (0, -1, 0)


def is_run(reel, run):
    """Whether three integers are a run of a reel."""
    signs, loss, turns = reel
    used, last, way = run
    if run == UNUSED:
        return True
    if used < 1 or not 0 <= last < len(signs):
        return False
    behind = len(signs) - 1 - last
    if used == 1:
        return way == 0 and (min(last, behind) if turns else last) <= loss
    if way == 1:
        left_out = last + 1 - used
    elif way == -1 and turns:
        left_out = behind + 1 - used
    else:
        return False
    return 0 <= left_out <= loss


def goes_on(run, place):
    """Whether a place can come next by the way of a run."""
    used, last, way = run
    if used == 0:
        return True
    if way == 0:
        return place != last
    return place > last if way == 1 else place < last


def run_after(run, place):
    """The run behind a run and the place that comes next."""
    used, last, way = run
    if used == 1:
        way = 1 if place > last else -1
    return (used + 1, place, way)


def moves_of(reel, run):
    """The places that can come next, ascending, each with the run behind it."""
    moves = [(place, run_after(run, place)) for place in range(len(reel[0])) if goes_on(run, place)]
    return [(place, after) for place, after in moves if is_run(reel, after)]


def need(reel, run):
    """How many frames a reel must still give, so that no more are left out than its loss."""
    return max(0, len(reel[0]) - reel[1] - run[0])


def room(reel, run):
    """How many frames a reel can still give."""
    signs, loss, turns = reel
    used, last, way = run
    behind = len(signs) - 1 - last
    if way == -1:
        return last
    if used != 1 or not turns:
        return behind
    return max(behind if last <= loss else 0, last if behind <= loss else 0)


def may_end(reel, run):
    """Whether no more places of a reel are unused than its loss."""
    return len(reel[0]) - run[0] <= reel[1]
