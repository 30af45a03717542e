"""What the claims of a rank list get, and what their owners are paid."""

from deedranks.flows import greatest_plan
from deedranks.plans import is_plan, plan_totals


def sums(ranks, prices):
    """The list of the greatest sums of the first demands, for each number of them from 1 on."""
    rows = []
    whole = 0
    for _, total in _demand_totals(ranks, prices):
        whole += total
        rows.append(whole)
    return rows


def totals(ranks, prices):
    """The list of the pairs (name, total) of all claims, by ranks."""
    got = {name: total for name, total in _demand_totals(ranks, prices)}
    return [(name, got.get(name, 0)) for name in ranks.names()]


def pays(ranks, prices):
    """The dict from the owners of claims to their pays."""
    got = {name: total for name, total in _demand_totals(ranks, prices)}
    return {person: sum([got[name] for name in ranks.owned(person)]) for person in ranks.persons()}


def right_plan(ranks, prices):
    """A right plan."""
    return greatest_plan(ranks.demands(), prices)


def is_right(ranks, prices, value):
    """Whether any value is a right plan."""
    demands = ranks.demands()
    return is_plan(demands, prices, value) and plan_totals(demands, value) == _demand_totals(ranks, prices)


def _demand_totals(ranks, prices):
    return plan_totals(ranks.demands(), right_plan(ranks, prices))
