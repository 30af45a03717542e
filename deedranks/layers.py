"""Layers: to whom the coins of one parcel go, while the other prices stay."""

from deedranks.demands import check_prices
from deedranks.errors import InvalidName, InvalidNumber
from deedranks.ranks import owned_claim
from deedranks.totals import sums, totals
from deedranks.words import is_name, is_price, is_whole


def layers(ranks, prices, parcel):
    """The triples (name, low, high) of the layers of a parcel, by ranks."""
    _check(prices, parcel)
    demands = ranks.demands()
    # More than all amounts together is never paid out of a parcel.
    most = sum([amount for _, amount, _ in demands])
    low = 0
    for (name, _, _), with_all, without in zip(demands, sums(ranks, {**prices, parcel: most}),
                                               sums(ranks, {**prices, parcel: 0})):
        high = with_all - without
        if high > low:
            yield (name, low, high)
        low = high


def coin_owner(ranks, prices, parcel, coin):
    """The name of the claim to which a coin of a parcel goes, the empty string if to nobody."""
    _check(prices, parcel)
    if not is_price(coin):
        raise InvalidNumber(coin)
    for name, low, high in layers(ranks, prices, parcel):
        if low <= coin < high:
            return name
    return ""


def least_price(ranks, prices, parcel, name, wanted):
    """The least price of a parcel at which the total of a claim is at least a number, None if there is none."""
    _check(prices, parcel)
    owned_claim(ranks, name)
    if not is_whole(wanted):
        raise InvalidNumber(wanted)
    lacking = wanted - sum([total for other, total in totals(ranks, {**prices, parcel: 0}) if other == name])
    if lacking <= 0:
        return 0
    for other, low, high in layers(ranks, prices, parcel):
        if other == name and low + lacking <= high:
            return low + lacking
    return None


def _check(prices, parcel):
    check_prices(prices)
    if not is_name(parcel):
        raise InvalidName(parcel)
