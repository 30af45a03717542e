"""Whether two rank lists pay each person the same at all prices."""

from deedranks.errors import TooMany
from deedranks.totals import pays

_MOST_ROWS = 729


def classes(first, second):
    """The list of the classes of two rank lists."""
    lots = [lot for _, _, lot in [*first.demands(), *second.demands()]]
    groups = {}
    for parcel in sorted({parcel for lot in lots for parcel in lot}):
        places = tuple([at for at, lot in enumerate(lots) if parcel in lot])
        groups[places] = [*groups.get(places, []), parcel]
    return [groups[places] for places in groups]


def caps(first, second):
    """The list of the caps of the classes of two rank lists."""
    return [max(_amounts_on(first, group[0]), _amounts_on(second, group[0])) for group in classes(first, second)]


def row_count(first, second):
    """The number of the price rows of two rank lists."""
    many = 1
    for cap in caps(first, second):
        many *= cap + 1
    return many


def price_rows(first, second):
    """The price rows of two rank lists, in their order."""
    if row_count(first, second) > _MOST_ROWS:
        raise TooMany(_MOST_ROWS)
    names = [group[0] for group in classes(first, second)]
    rows = [[]]
    for cap in caps(first, second):
        rows = [[*row, price] for row in rows for price in range(cap + 1)]
    for _, row in sorted([(sum(row), row) for row in rows]):
        yield {name: price for name, price in zip(names, row)}


def parting(first, second):
    """The first price row at which a person has different pays, None if there is none."""
    for prices in price_rows(first, second):
        if _paid(first, prices) != _paid(second, prices):
            return prices
    return None


def are_alike(first, second):
    """Whether two rank lists are alike."""
    return parting(first, second) is None


def _amounts_on(ranks, parcel):
    """The sum of the amounts of the demands whose lots have a parcel."""
    return sum([amount for _, amount, lot in ranks.demands() if parcel in lot])


def _paid(ranks, prices):
    """The pays of all who get something."""
    got = pays(ranks, prices)
    return {person: got[person] for person in got if got[person] > 0}
