"""Cuts, and the smallest and the largest one with the least value."""

from deedranks.demands import check_demands, check_prices
from deedranks.errors import InvalidCut
from deedranks.flows import Drawing, prices_out_of


def is_cut(demands, value):
    """Whether any value is a list of names of demands in their order."""
    check_demands(demands)
    if not isinstance(value, (list, tuple)):
        return False
    return list(value) == [name for name, _, _ in demands if name in value]


def cut_value(demands, prices, names, *, parcels=None):
    """The value of a cut out of some parcels, None for all of them."""
    check_demands(demands)
    check_prices(prices)
    if not is_cut(demands, names):
        raise InvalidCut()
    given = prices_out_of(prices, parcels)
    touched = {parcel: True for name, _, lot in demands if name in names for parcel in lot}
    others = sum([amount for name, amount, _ in demands if name not in names])
    return others + sum([given[parcel] for parcel in given if parcel in touched])


def smallest_cut(demands, prices, *, parcels=None):
    """The least cut whose names all least cuts have."""
    drawing = _grown(demands, prices, parcels)
    return drawing.led_from(drawing.lacking())


def largest_cut(demands, prices, *, parcels=None):
    """The least cut that has the names of all least cuts."""
    drawing = _grown(demands, prices, parcels)
    return [name for name, _, _ in demands if drawing.moving_from([name]) is None]


def _grown(demands, prices, parcels):
    check_demands(demands)
    check_prices(prices)
    drawing = Drawing(demands, prices_out_of(prices, parcels), {})
    drawing.grow()
    return drawing
