"""Claims on paper: claims in the order of their places, with the entry numbers by which parcels came into lots."""

from deedranks.errors import OutsideLot, Unlike
from deedranks.rankdeeds import changed
from deedranks.ranks import RankList
from deedranks.words import is_name


class OnPaper:
    """The claims on paper of a roll, none at first."""

    def __init__(self):
        self._ranks = RankList()
        # From names to the numbers of their places, to dicts from parcels to entry numbers, and to last days.
        self._places = {}
        self._came = {}
        self._last = {}

    def ranks(self):
        """The rank list of the claims."""
        return self._ranks

    def places(self):
        """The list of the pairs (number of the place, name), in their order."""
        return [(self._places[name], name) for name in self._ranks.names()]

    def came_by(self, name, parcel):
        """The entry number by which a parcel came into the lot of a claim."""
        if parcel not in self._ranks.claim(name).lot:
            raise OutsideLot(parcel)
        return self._came[name][parcel]

    def last_day(self, name):
        """The last day of a reserved claim, None for any other value."""
        return self._last[name] if is_name(name) and name in self._last else None

    def standing(self, titles):
        """The rank list with the parcels that stand as lots, without the claims for which there are none."""
        claims = []
        for claim in self._ranks.claims():
            came = self._came[claim.name]
            lot = tuple([parcel for parcel in claim.lot if titles.stands(came[parcel], parcel)])
            if lot != ():
                claims.append(claim.with_lot(lot))
        return RankList(*claims)

    def expire(self, day):
        """Takes out the reserved claims whose last day is before a day."""
        self._keep([claim for claim in self._ranks.claims() if not claim.reserved or self._last[claim.name] >= day])

    def enter(self, number, claim, last):
        """Enters a claim by an entry number, ahead of the first place with a greater number; last is its last day."""
        at = len([place for place, _ in self.places() if place <= number])
        claims = self._ranks.claims()
        claims.insert(at, claim)
        self._places[claim.name] = number
        self._came[claim.name] = {parcel: number for parcel in claim.lot}
        self._last[claim.name] = last
        self._keep(claims)

    def change(self, deed):
        """Does one of the rank deeds that change nothing but claims on paper."""
        after = changed(self._ranks, deed)
        word, name, *rest = deed
        if word == "merge":
            self._check_merge(name)
        elif word == "part":
            self._split(name, rest[1])
        elif word == "trade":
            # The places keep their numbers.
            self._places[name], self._places[rest[0]] = self._places[rest[0]], self._places[name]
        self._keep(after.claims())

    def put_in(self, number, name, parcel):
        """Puts a parcel into the lot of a claim by an entry number."""
        after = changed(self._ranks, ("extend", name, parcel))
        self._came[name] = {**self._came[name], parcel: number}
        self._keep(after.claims())

    def divide(self, parcel, new):
        """Puts a new parcel into each lot with a parcel, by the same entry number."""
        after = changed(self._ranks, ("divide", parcel, new))
        for name in after.names():
            self._came[name] = {**self._came[name], new: self._came[name].get(parcel)}
        self._keep(after.claims())

    def unite(self, first, second):
        """Takes the second parcel out of all lots."""
        self._keep(changed(self._ranks, ("unite", first, second)).claims())

    def twin(self):
        """Independent claims on paper in the same state."""
        other = OnPaper()
        other._places = self._places
        other._came = self._came
        other._last = self._last
        # This gives the twin dicts of its own.
        other._keep(self._ranks.claims())
        return other

    def _check_merge(self, name):
        """Raises unless the claim behind has the same entry numbers and the same last day."""
        behind = self._ranks[self._ranks.rank(name) + 1].name
        if self._came[name] != self._came[behind] or self.last_day(name) != self.last_day(behind):
            raise Unlike(name)

    def _split(self, name, new):
        """Tells of a new claim all that is told of another one."""
        self._places[new] = self._places[name]
        self._came[new] = self._came[name]
        self._last[new] = self.last_day(name)

    def _keep(self, claims):
        """Takes these claims, and keeps of all that was told what is still true of them."""
        self._ranks = RankList(*claims)
        self._places = {claim.name: self._places[claim.name] for claim in claims}
        self._came = {claim.name: {parcel: self._came[claim.name][parcel] for parcel in claim.lot} for claim in claims}
        self._last = {claim.name: self._last[claim.name] for claim in claims if claim.reserved}
