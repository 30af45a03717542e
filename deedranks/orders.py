"""Orders of sale, and what a claim can get over all of them if nothing is moved."""

from deedranks.demands import check_prices
from deedranks.errors import InvalidOrder, TooMany
from deedranks.ranks import owned_claim
from deedranks.sales import Sale
from deedranks.words import is_name

_MOST_PARCELS = 5


def order_totals(ranks, prices, order):
    """The list of the pairs (name, total) of all demands behind a sale in this order, by ranks."""
    check_prices(prices)
    _check_order(order)
    return _sold_totals(ranks, prices, order)


def order_range(ranks, prices, name):
    """The least and the greatest total of a claim over all orders, and for each of them the first order with it."""
    check_prices(prices)
    owned_claim(ranks, name)
    parcels = sorted({parcel for _, _, lot in ranks.demands() for parcel in lot})
    if len(parcels) > _MOST_PARCELS:
        raise TooMany(_MOST_PARCELS)
    orders = _all_orders(parcels)
    found = [dict(_sold_totals(ranks, prices, order))[name] for order in orders]
    least, greatest = min(found), max(found)
    first, last = orders[found.index(least)], orders[found.index(greatest)]
    # Both may be the same order, and then they are still two lists.
    return least, greatest, first, list(last)


def _check_order(order):
    if not isinstance(order, (list, tuple)):
        raise InvalidOrder(-1)
    for at, parcel in enumerate(order):
        if not is_name(parcel) or parcel in order[:at]:
            raise InvalidOrder(at)


def _sold_totals(ranks, prices, order):
    sale = Sale(ranks)
    for parcel in order:
        sale.sell(parcel, prices.get(parcel, 0))
    return sale.totals()


def _all_orders(parcels):
    """All orders of an ascending list of parcels, in ascending order."""
    orders = [[]]
    for _ in parcels:
        orders = [[*order, parcel] for order in orders for parcel in parcels if parcel not in order]
    return orders
