"""Plans: what each demand gets from each parcel."""

from deedranks.demands import check_demands, check_prices
from deedranks.words import is_amount


def is_plan(demands, prices, value):
    """Whether any value is a plan of the demands at the prices."""
    check_demands(demands)
    check_prices(prices)
    if not isinstance(value, dict):
        return False
    lots = {name: lot for name, _, lot in demands}
    if not all([_is_item(lots, key, value[key]) for key in value]):
        return False
    if any([total_of(value, name) > amount for name, amount, _ in demands]):
        return False
    return all([taken_from(value, parcel) <= prices.get(parcel, 0) for _, parcel in value])


def plan_sum(plan):
    """The sum of all numbers of a plan."""
    return sum([plan[pair] for pair in plan])


def plan_totals(demands, plan):
    """The list of the pairs (name, total), in the order of the demands."""
    check_demands(demands)
    return [(name, total_of(plan, name)) for name, _, _ in demands]


def taken_from(plan, parcel):
    """The sum of the numbers of a parcel."""
    return sum([plan[pair] for pair in plan if pair[1] == parcel])


def rests(prices, plan):
    """The dict from the parcels that the prices name to their rests."""
    check_prices(prices)
    return {parcel: prices[parcel] - taken_from(plan, parcel) for parcel in sorted(prices)}


def total_of(plan, name):
    """The sum of the numbers of a demand."""
    return sum([plan[pair] for pair in plan if pair[0] == name])


def _is_item(lots, key, value):
    """Whether any key and value are an item of a plan of demands with these lots."""
    if not isinstance(key, tuple) or len(key) != 2:
        return False
    name, parcel = key
    return name in lots and parcel in lots[name] and is_amount(value)
