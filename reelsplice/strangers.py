"""Stage 7: strangers, frames that are of no reel (points [10] and [11])."""

from reelsplice.costs import cheapest, least_at_end, least_values, show
from reelsplice.loose import LooseRules
from reelsplice.pairs import go_together, has_pairs, signs_fit

STRANGER = 1


def is_loose(case, value):
    """Whether any value is a loose cut of a case."""
    return has_pairs(case, value) and signs_fit(case, value) and go_together(case, value)


def find_loose(case):
    """A loose cut with as few strangers as possible, or None if there is no loose cut."""
    return cheapest(rules_of(case))


def fewest_strangers(case):
    """The least number of strangers of a loose cut, or None if there is no loose cut."""
    return least_at_end(rules_of(case))


def find_values(case):
    """Values that show the fewest strangers, or each number if there is no loose cut."""
    return least_values(rules_of(case))


def shows(case, value, number):
    """Whether any value is values that show a number."""
    return show(rules_of(case), value, number)


def rules_of(case):
    """The rules of loose steps: a stranger costs 1, and no frame may be misread."""
    return LooseRules(case, STRANGER, None)
