"""Claims: amounts that are owed out of lots of parcels."""

from deedranks.errors import InvalidAmount, InvalidLot, InvalidName
from deedranks.words import is_amount, is_lot, is_name, number_text


class Claim:
    """A claim; it is reserved if its owner is None. It never changes."""

    def __init__(self, name, owner, amount, lot):
        if not is_name(name):
            raise InvalidName(name)
        if owner is not None and not is_name(owner):
            raise InvalidName(owner)
        if not is_amount(amount):
            raise InvalidAmount(amount)
        if not is_lot(lot):
            raise InvalidLot(lot)
        self.name = name
        self.owner = owner
        self.amount = amount
        self.lot = lot

    def __eq__(self, other):
        return (isinstance(other, Claim) and self.name == other.name and self.owner == other.owner
                and self.amount == other.amount and self.lot == other.lot)

    def __repr__(self):
        return f"Claim({self.name}, {_owner_text(self.owner)}, {number_text(self.amount)}, {' '.join(self.lot)})"

    @property
    def reserved(self):
        """Whether the claim has no owner."""
        return self.owner is None

    @classmethod
    def held(cls, name, amount, lot):
        """The reserved claim with these."""
        return cls(name, None, amount, lot)

    def demand(self):
        """The demand of the claim."""
        return (self.name, self.amount, self.lot)

    def with_owner(self, owner):
        """The claim with another owner, None for a reserved one."""
        return Claim(self.name, owner, self.amount, self.lot)

    def with_amount(self, amount):
        """The claim with another amount."""
        return Claim(self.name, self.owner, amount, self.lot)

    def with_lot(self, lot):
        """The claim with another lot."""
        return Claim(self.name, self.owner, self.amount, lot)


def _owner_text(owner):
    return "-" if owner is None else owner
