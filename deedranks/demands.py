"""Demands and prices: what is owed out of which parcels, and what the parcels bring."""

from deedranks.errors import InvalidDemand, InvalidPrices, TooMany
from deedranks.words import is_amount, is_lot, is_name, is_price

_MOST_DEMANDS = 24


def is_demand(value):
    """Whether any value is a demand."""
    if not isinstance(value, tuple) or len(value) != 3:
        return False
    name, amount, lot = value
    return is_name(name) and is_amount(amount) and is_lot(lot)


def check_demands(value):
    """Raises unless any value is a list of demands with different names."""
    if not isinstance(value, (list, tuple)):
        raise InvalidDemand(-1)
    if len(value) > _MOST_DEMANDS:
        raise TooMany(_MOST_DEMANDS)
    names = []
    for at, item in enumerate(value):
        if not is_demand(item) or item[0] in names:
            raise InvalidDemand(at)
        names.append(item[0])


def check_prices(value):
    """Raises unless any value is a dict of prices."""
    if not isinstance(value, dict):
        raise InvalidPrices(None)
    for key in value:
        if not is_name(key) or not is_price(value[key]):
            raise InvalidPrices(key)


def price_row(**prices):
    """The dict of the prices."""
    check_prices(prices)
    return {parcel: prices[parcel] for parcel in sorted(prices)}
