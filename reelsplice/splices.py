"""Stage 9: splices, where a tape goes over from one reel to another (points [14] and [15])."""

from reelsplice.costs import all_costs, costs_at_end, has_cost, least_values, pairs_of_cost, show
from reelsplice.joined import JoinedRules


def splices(cut):
    """The splices of a cut, ascending."""
    return [k for k in range(1, len(cut)) if cut[k - 1][0] != cut[k][0]]


def splice_counts(case):
    """All numbers of splices that cuts of a case have, ascending."""
    rules = JoinedRules(case)
    costs = costs_at_end(rules, all_costs(rules, True))
    return [n for n in range(costs.bit_length()) if has_cost(costs, n)]


def cut_with(case, n):
    """A cut with n splices, or None if there is none."""
    # a shift by a very great number is not asked of Python
    if n > len(case[1]):
        return None
    rules = JoinedRules(case)
    layers = all_costs(rules, True)
    return pairs_of_cost(rules, layers, n) if has_cost(costs_at_end(rules, layers), n) else None


def find_splice_values(case):
    """Splice values that show the least number of splices, or each number if there is no cut."""
    return least_values(JoinedRules(case))


def shows_splices(case, value, number):
    """Whether any value is splice values that show a number."""
    return show(JoinedRules(case), value, number)
