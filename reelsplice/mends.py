"""Stage 8: mends, with strangers and misread frames at prices (points [12] and [13])."""

from reelsplice.costs import cheapest, least_at_end, least_values, show
from reelsplice.loose import LooseRules
from reelsplice.pairs import go_together, has_pairs, misread_frames


def is_mended(case, value):
    """Whether any value is a mended cut of a case."""
    return has_pairs(case, value) and go_together(case, value)


def cost(case, prices, mended):
    """The cost of a mended cut."""
    stranger, misread = prices
    return stranger * mended.count(None) + misread * len(misread_frames(case, mended))


def find_mended(case, prices):
    """A mended cut with the least cost, or None if there is no mended cut."""
    return cheapest(rules_at(case, prices))


def least_cost(case, prices):
    """The least cost of a mended cut, or None if there is no mended cut."""
    return least_at_end(rules_at(case, prices))


def find_mend_values(case, prices):
    """Mend values that show the least cost, or each number if there is no mended cut."""
    return least_values(rules_at(case, prices))


def shows_mend(case, prices, value, number):
    """Whether any value is mend values that show a number."""
    return show(rules_at(case, prices), value, number)


def rules_at(case, prices):
    """The rules of mending steps at prices."""
    stranger, misread = prices
    return LooseRules(case, stranger, misread)
