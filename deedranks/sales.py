"""Sales: the parcels are sold one by one, and the demands take from each price."""

from deedranks.errors import InvalidName, InvalidPrices, Sold
from deedranks.flows import greatest_plan
from deedranks.plans import plan_totals
from deedranks.words import is_name, is_price


class Sale:
    """A sale in which nothing is moved afterwards. Nothing is sold at first."""

    def __init__(self, ranks):
        self._ranks = ranks
        self._demands = ranks.demands()
        # The prices of the sold parcels, in the order in which they were sold.
        self._prices = {}
        self._taken = {}

    def __repr__(self):
        return f"Sale({len(self._prices)} sold)"

    @property
    def ended(self):
        """Whether all parcels of the lots of demands are sold."""
        return all([parcel in self._prices for _, _, lot in self._demands for parcel in lot])

    def sell(self, parcel, price):
        """Sells a parcel; the list of the pairs (name, gain) of the totals that rise by it, by ranks."""
        self._check_sale(parcel, price)
        before = self.totals()
        owed = dict(self.owed())
        rest = price
        for name, _, lot in self._demands:
            many = min(rest, owed[name]) if parcel in lot else 0
            if many > 0:
                self._taken[(name, parcel)] = many
                rest -= many
        self._prices[parcel] = price
        return _gains(before, self.totals())

    def totals(self):
        """The list of the pairs (name, total) of all demands, by ranks."""
        return plan_totals(self._demands, self.plan())

    def owed(self):
        """The list of the pairs (name, amount less total) of all demands, by ranks."""
        return [(name, amount - total) for (_, amount, _), (name, total) in zip(self._demands, self.totals())]

    def sold(self):
        """The dict from the parcels that are sold to their prices."""
        return {parcel: self._prices[parcel] for parcel in sorted(self._prices)}

    def order(self):
        """The list of the parcels that are sold, as they were sold."""
        return list(self._prices)

    def plan(self):
        """The plan of what each demand took from each parcel."""
        return {pair: self._taken[pair] for pair in sorted(self._taken)}

    def twin(self):
        """An independent sale in the same state."""
        other = Sale(self._ranks)
        other._prices = dict(self._prices)
        other._taken = self.plan()
        return other

    def _check_sale(self, parcel, price):
        if not is_name(parcel):
            raise InvalidName(parcel)
        if not is_price(price):
            raise InvalidPrices(parcel)
        if parcel in self._prices:
            raise Sold(parcel)


class FairSale(Sale):
    """A sale in which what was paid is moved, so that the totals are always those of the prices so far."""

    def __repr__(self):
        return f"FairSale({len(self._prices)} sold)"

    def sell(self, parcel, price):
        """Sells a parcel; the list of the pairs (name, gain) of the totals that rise by it, by ranks."""
        self._check_sale(parcel, price)
        before = self.totals()
        self._prices[parcel] = price
        return _gains(before, self.totals())

    def plan(self):
        """A plan with the present totals."""
        return greatest_plan(self._demands, self._prices)

    def twin(self):
        """An independent fair sale in the same state."""
        other = FairSale(self._ranks)
        other._prices = dict(self._prices)
        return other


def _gains(before, after):
    """The list of the pairs (name, gain) of the totals that have risen."""
    return [(name, total - old) for (_, old), (name, total) in zip(before, after) if total > old]
