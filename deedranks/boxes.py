"""Boxes: bounds for prices, and what claims and persons get within them."""

from deedranks.demands import check_prices
from deedranks.errors import InvalidBounds, InvalidNumber
from deedranks.ranks import owned_claim
from deedranks.totals import pays, totals
from deedranks.words import is_name, is_price, is_whole


class Box:
    """A lowest and a highest price for each of some parcels. It never changes."""

    def __init__(self, bounds):
        if not isinstance(bounds, dict):
            raise InvalidBounds(None)
        for key in bounds:
            if not is_name(key) or not _is_range(bounds[key]):
                raise InvalidBounds(key)
        self._bounds = {parcel: bounds[parcel] for parcel in sorted(bounds)}

    def __len__(self):
        return len(self._bounds)

    def __eq__(self, other):
        return isinstance(other, Box) and self._bounds == other._bounds

    def __repr__(self):
        return f"Box({len(self._bounds)} parcels)"

    def bounds(self):
        """The dict from the parcels to the pairs (lowest, highest)."""
        return dict(self._bounds)

    def low(self):
        """All lowest prices."""
        return {parcel: self._bounds[parcel][0] for parcel in self._bounds}

    def high(self):
        """All highest prices."""
        return {parcel: self._bounds[parcel][1] for parcel in self._bounds}

    def holds(self, prices):
        """Whether prices are in the box."""
        check_prices(prices)
        if any([prices[parcel] != 0 for parcel in prices if parcel not in self._bounds]):
            return False
        return all([low <= prices.get(parcel, 0) <= high for parcel, (low, high) in self._bounds.items()])


def pay_range(ranks, box, name):
    """The pair of the totals of a claim at the lowest and at the highest prices of a box."""
    owned_claim(ranks, name)
    return _total(ranks, box.low(), name), _total(ranks, box.high(), name)


def outlook(ranks, box, name, wanted):
    """Whether the total of a claim is at least a number in a box: surely, perhaps or never."""
    low, high = _checked_range(ranks, box, name, wanted)
    if low >= wanted:
        return "surely"
    return "perhaps" if high >= wanted else "never"


def brings(ranks, box, name, wanted):
    """Prices of a box at which the total of a claim is a number; None if there are none."""
    low, high = _checked_range(ranks, box, name, wanted)
    if not low <= wanted <= high:
        return None
    prices = box.low()
    for parcel, highest in box.high().items():
        lowest = prices[parcel]
        prices[parcel] = highest
        if _total(ranks, prices, name) >= wanted:
            prices[parcel] = _least_price(ranks, prices, parcel, lowest, name, wanted)
            break
    return prices


def person_range(ranks, box, person):
    """The pair of the pays of a person at the lowest and at the highest prices of a box, 0 without claims."""
    return pays(ranks, box.low()).get(person, 0), pays(ranks, box.high()).get(person, 0)


def _is_range(value):
    """Whether any value is a pair of prices of which the first one is not above the second one."""
    if not isinstance(value, tuple) or len(value) != 2:
        return False
    return is_price(value[0]) and is_price(value[1]) and value[0] <= value[1]


def _checked_range(ranks, box, name, wanted):
    low, high = pay_range(ranks, box, name)
    if not is_whole(wanted):
        raise InvalidNumber(wanted)
    return low, high


def _total(ranks, prices, name):
    return sum([total for other, total in totals(ranks, prices) if other == name])


def _least_price(ranks, prices, parcel, lowest, name, wanted):
    """The least price of a parcel, from lowest to the present one, at which a claim has at least a number.

    The total rises by 1 at most for each coin. So if it was not above the number before, it is just this number there.
    """
    low, high = lowest, prices[parcel]
    while low < high:
        middle = (low + high) // 2
        if _total(ranks, {**prices, parcel: middle}, name) >= wanted:
            high = middle
        else:
            low = middle + 1
    return low
