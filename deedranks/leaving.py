"""What right plans leave of the prices of some parcels."""

from deedranks.demands import check_prices
from deedranks.flows import greatest_sum, grown_plan, prices_out_of
from deedranks.foul import capped_demands
from deedranks.plans import taken_from
from deedranks.words import is_number


def left(ranks, prices, parcels):
    """The pair of the least and the greatest number that right plans leave of some parcels."""
    check_prices(prices)
    demands = ranks.demands()
    whole = sum([prices[parcel] for parcel in prices if parcel in parcels])
    from_others = greatest_sum(demands, _prices_beside(prices, parcels))
    return whole - greatest_sum(demands, prices, parcels=parcels), whole - greatest_sum(demands, prices) + from_others


def left_plan(ranks, prices, parcels, rest):
    """A right plan that leaves a number of some parcels; None for any value for which there is none."""
    least, most = left(ranks, prices, parcels)
    if not is_number(rest, least, most):
        return None
    demands = capped_demands(ranks.demands(), prices)
    out_of = prices_out_of(prices, parcels)
    # What a parcel gives never falls while a plan grows. So first the other parcels give as much as they can, then all
    # of them. What the parcels must give beside that can be reached, and raised up to the number that is due.
    beside = grown_plan(demands, _prices_beside(prices, parcels), {})
    due = _plan_out_of(grown_plan(demands, prices, beside), parcels)
    given = grown_plan(demands, out_of, due, most=most - rest)
    # At last these parcels have no rest any more, and the others give what lacks.
    taken = {parcel: taken_from(given, parcel) for parcel in out_of}
    return grown_plan(demands, {**prices, **taken}, given)


def _prices_beside(prices, parcels):
    """The prices of all other parcels."""
    return {parcel: prices[parcel] for parcel in prices if parcel not in parcels}


def _plan_out_of(plan, parcels):
    """What these parcels give in a plan."""
    return {pair: plan[pair] for pair in plan if pair[1] in parcels}
