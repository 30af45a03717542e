"""Certificates: plans with cuts that show, without any search, that they are right."""

from deedranks.cuts import cut_value, is_cut, smallest_cut
from deedranks.plans import is_plan, plan_totals
from deedranks.totals import right_plan


def certificate(ranks, prices):
    """A right certificate with the smallest least cuts of the first demands."""
    demands = ranks.demands()
    plan = right_plan(ranks, prices)
    return plan, [smallest_cut(demands[:at + 1], prices) for at in range(len(demands))]


def judged(ranks, prices, plan, cuts):
    """What is wrong with any two values as a certificate: a pair of a word and a name."""
    demands = ranks.demands()
    if not is_plan(demands, prices, plan):
        return ("plan", "")
    if not isinstance(cuts, (list, tuple)) or len(cuts) != len(demands):
        return ("cuts", "")
    reached = 0
    for at, (name, total) in enumerate(plan_totals(demands, plan)):
        reached += total
        first = demands[:at + 1]
        if not is_cut(first, cuts[at]):
            return ("cut", name)
        if cut_value(first, prices, cuts[at]) != reached:
            return ("sum", name)
    return ("right", "")
