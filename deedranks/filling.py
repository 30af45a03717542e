"""Fillings: the demands of a rank list come one by one, in any order."""

from deedranks.demands import check_prices
from deedranks.errors import Came
from deedranks.flows import greatest_plan
from deedranks.plans import plan_totals
from deedranks.ranks import owned_claim


class Filling:
    """A filling, to which no demand has come at first."""

    def __init__(self, ranks, prices):
        check_prices(prices)
        self._ranks = ranks
        self._demands = ranks.demands()
        self._prices = dict(prices)
        self._came = []

    def __len__(self):
        return len(self._came)

    def __repr__(self):
        return f"Filling({len(self._came)} of {len(self._demands)})"

    @property
    def complete(self):
        """Whether all demands have come."""
        return len(self._came) == len(self._demands)

    def come(self, name):
        """Lets a demand come; the list of the pairs (name, change) of the totals that change by it, by ranks."""
        owned_claim(self._ranks, name)
        if name in self._came:
            raise Came(name)
        before = {other: total for other, total in self.totals()}
        self._came.append(name)
        changes = [(other, total - before.get(other, 0)) for other, total in self.totals()]
        return [(other, change) for other, change in changes if change != 0]

    def came(self):
        """The list of the names, in the order in which they came."""
        return list(self._came)

    def totals(self):
        """The list of the pairs (name, total) of the demands that have come, by ranks."""
        return plan_totals(self._there(), self.plan())

    def plan(self):
        """A plan of the demands that have come, with their totals."""
        return greatest_plan(self._there(), self._prices)

    def twin(self):
        """An independent filling in the same state."""
        other = Filling(self._ranks, self._prices)
        other._came = list(self._came)
        return other

    def _there(self):
        """The list of the demands that have come, by ranks."""
        return [demand for demand in self._demands if demand[0] in self._came]
