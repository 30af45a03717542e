"""Rank lists: claims in the order of their ranks."""

from deedranks.claims import Claim
from deedranks.errors import DuplicateName, InvalidClaim, InvalidNumber, Reserved, TooMany, UnknownClaim
from deedranks.words import is_number


class RankList:
    """Claims with different names, the first one with the rank 1. It never changes."""

    MOST = 24

    def __init__(self, *claims):
        for at, claim in enumerate(claims):
            if not isinstance(claim, Claim):
                raise InvalidClaim(at)
        if len(claims) > RankList.MOST:
            raise TooMany(RankList.MOST)
        names = [claim.name for claim in claims]
        for at, name in enumerate(names):
            if name in names[:at]:
                raise DuplicateName(name)
        self._claims = list(claims)
        self._names = names

    def __len__(self):
        return len(self._claims)

    def __bool__(self):
        return True

    def __iter__(self):
        return iter(self._claims)

    def __getitem__(self, at):
        if not is_number(at, 1, len(self._claims)):
            raise InvalidNumber(at)
        return self._claims[at - 1]

    def __contains__(self, x):
        return x in self._names

    def __add__(self, other):
        return RankList(*self._claims, other)

    def __eq__(self, other):
        return isinstance(other, RankList) and self._claims == other._claims

    def __repr__(self):
        return f"RankList({len(self._claims)} claims)"

    def claims(self):
        """The list of the claims, by ranks."""
        return list(self._claims)

    def names(self):
        """The list of the names of the claims, by ranks."""
        return list(self._names)

    def claim(self, name):
        """The claim with a name."""
        return self._claims[self.rank(name) - 1]

    def rank(self, name):
        """The rank of the claim with a name."""
        if name not in self._names:
            raise UnknownClaim(name)
        return self._names.index(name) + 1

    def persons(self):
        """The ascending list of the owners."""
        return sorted({claim.owner for claim in self._claims if not claim.reserved})

    def owned(self, person):
        """The list of the names of the claims of a person, by ranks."""
        return [claim.name for claim in self._claims if not claim.reserved and claim.owner == person]

    def parcels(self):
        """The ascending list of all parcels of the lots."""
        return sorted({parcel for claim in self._claims for parcel in claim.lot})

    def demands(self):
        """The list of the demands of the claims that are not reserved, by ranks."""
        return [claim.demand() for claim in self._claims if not claim.reserved]

    def elders(self, name):
        """The list of the demands that are elder than the claim with a name."""
        ahead = self._claims[:self.rank(name) - 1]
        return [claim.demand() for claim in ahead if not claim.reserved]


def owned_claim(ranks, name):
    """The claim with a name; raises for any value that is no name of a claim, and if the claim is reserved."""
    claim = ranks.claim(name)
    if claim.reserved:
        raise Reserved(name)
    return claim
