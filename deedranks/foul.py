"""What is left for a claim if all elder ones draw from wherever they like."""

from deedranks.demands import check_prices
from deedranks.flows import greatest_plan, greatest_sum, grown_plan, prices_out_of
from deedranks.plans import total_of
from deedranks.ranks import owned_claim
from deedranks.totals import totals


def drawn_most(ranks, prices, name):
    """The most that the elder demands can draw from the parcels of the lot of a claim."""
    check_prices(prices)
    claim = owned_claim(ranks, name)
    return greatest_sum(ranks.elders(name), prices, parcels=claim.lot)


def foul_pay(ranks, prices, name):
    """The foul pay of a claim."""
    drawn = drawn_most(ranks, prices, name)
    claim = ranks.claim(name)
    return min(claim.amount, sum([prices.get(parcel, 0) for parcel in claim.lot]) - drawn)


def foul_plan(ranks, prices, name):
    """A plan of the elder demands with their totals that draws as much as can be from the lot of a claim."""
    check_prices(prices)
    claim = owned_claim(ranks, name)
    demands = capped_demands(ranks.elders(name), prices)
    drawn = grown_plan(demands, prices_out_of(prices, claim.lot), {})
    # What a parcel gives never falls while a plan grows.
    return grown_plan(demands, prices, drawn)


def is_safe(ranks, prices, name):
    """Whether the total of a claim is its foul pay."""
    pay = foul_pay(ranks, prices, name)
    return (name, pay) in totals(ranks, prices)


def capped_demands(demands, prices):
    """The demands with their totals in right plans in the place of their amounts.

    Out of each list of parcels these have the same greatest sum as the demands themselves.
    """
    plan = greatest_plan(demands, prices)
    return [(name, total_of(plan, name), lot) for name, _, lot in demands]
