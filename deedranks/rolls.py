"""Rolls: the records of a district at one time, and what deeds do to them."""

from deedranks.claims import Claim
from deedranks.deeds import is_correction, is_deed
from deedranks.errors import DuplicateName, DuplicateNumber, Granted, InsideLot, InvalidDay, InvalidDeed, InvalidNumber
from deedranks.errors import InvalidOwners, NotBeside, TooMany, UnknownGrant
from deedranks.granting import possible_steps
from deedranks.onpaper import OnPaper
from deedranks.ranks import RankList
from deedranks.titles import Titles
from deedranks.ways import Ways, is_step
from deedranks.words import is_day, is_entry_number, is_name


class Roll:
    """The records of a plat whose parcels have their first owners at first."""

    def __init__(self, plat, owners):
        check_owners(plat, owners)
        self.plat = plat
        self._day = 0
        self._titles = Titles(owners)
        # From the steps of the grants to their entry numbers.
        self._grants = {}
        self._paper = OnPaper()
        self._numbers = {}

    def __repr__(self):
        return f"Roll(day {self._day})"

    @property
    def present_day(self):
        """The present day."""
        return self._day

    def turn_to(self, day):
        """Changes the day; reserved claims whose last day is before it are taken out."""
        if not is_day(day) or day < self._day:
            raise InvalidDay(day)
        self._day = day
        self._paper.expire(day)

    def do(self, number, deed, *, day=None):
        """Does a deed with an entry number at a day, None for the present one."""
        if not is_entry_number(number):
            raise InvalidNumber(number)
        if number in self._numbers:
            raise DuplicateNumber(number)
        # A deed that is refused half-way leaves nothing behind.
        behind = self.twin()
        if day is not None:
            behind.turn_to(day)
        if not is_deed(deed) or is_correction(deed):
            raise InvalidDeed(0)
        _do(behind, number, deed)
        behind._numbers[number] = True
        self._become(behind)

    def titles(self):
        """Independent titles in the same state."""
        return self._titles.twin()

    def grants(self):
        """The ascending list of the steps of the grants that stand."""
        return [step for step in sorted(self._grants) if self._titles.stands(self._grants[step], step[1])]

    def on_paper(self):
        """The rank list of the claims on paper."""
        return self._paper.ranks()

    def places(self):
        """The list of the pairs (number of the place, name) of the claims on paper, in their order."""
        return self._paper.places()

    def came_by(self, name, parcel):
        """The entry number by which a parcel came into the lot of a claim on paper."""
        return self._paper.came_by(name, parcel)

    def last_day(self, name):
        """The last day of a reserved claim, None for any other value."""
        return self._paper.last_day(name)

    def ranks(self):
        """The rank list of the claims for which parcels stand."""
        return self._paper.standing(self._titles)

    def ways(self):
        """The ways with the steps of the grants that stand, and between neighbours with the same owners and shares."""
        owners = {parcel: self._titles.owners(parcel) for parcel in self.plat.names()}
        own = [(start, over) for start, over in possible_steps(self.plat) if owners[start] == owners[over]]
        return Ways(self.plat, [*self.grants(), *own])

    def twin(self):
        """An independent roll in the same state."""
        other = Roll(self.plat, {parcel: self._titles.first_owner(parcel) for parcel in self.plat.names()})
        other._become(self)
        other._titles = self._titles.twin()
        other._grants = {step: self._grants[step] for step in self._grants}
        other._paper = self._paper.twin()
        other._numbers = dict(self._numbers)
        return other

    def _become(self, other):
        """Takes the state of another roll, which shares it from then on."""
        self.plat = other.plat
        self._day = other._day
        self._titles = other._titles
        self._grants = other._grants
        self._paper = other._paper
        self._numbers = other._numbers


def check_owners(plat, owners):
    """Raises InvalidOwners unless this is a dict from the parcels of a plat to their first owners."""
    if not isinstance(owners, dict):
        raise InvalidOwners(None)
    for key in owners:
        if key not in plat or not is_name(owners[key]):
            raise InvalidOwners(key)
    for parcel in plat.names():
        if parcel not in owners:
            raise InvalidOwners(parcel)


def _do(roll, number, deed):
    """Does a deed that is no correction."""
    word, *items = deed
    if word in _ACTIONS:
        action = _ACTIONS[word]
        action(roll, number, *items)
    else:
        roll._paper.change(deed)


def _sale(roll, number, lot, giver, taker, share, knew):
    roll._titles.give(number, lot, giver, taker, share, good=not knew)


def _gift(roll, number, lot, giver, taker, share):
    roll._titles.give(number, lot, giver, taker, share)


def _heirs(roll, number, person, heirs):
    roll._titles.inherit(number, person, heirs)


def _void(roll, number, target):
    roll._titles.void(number, target)


def _uphold(roll, number, target):
    roll._titles.uphold(number, target)


def _divide(roll, _, parcel, cells, new):
    roll.plat = roll.plat.divided(parcel, cells, new)
    roll._titles.divide(parcel, new)
    roll._paper.divide(parcel, new)
    grants = {}
    for step in roll._grants:
        starts, overs = [[name, new] if name == parcel else [name] for name in step]
        for part in [(start, over) for start in starts for over in overs if is_step(roll.plat, (start, over))]:
            grants[part] = roll._grants[step]
    roll._grants = grants


def _unite(roll, _, first, second):
    roll.plat = roll.plat.united(first, second)
    roll._titles.unite(first, second)
    roll._paper.unite(first, second)
    grants = {}
    for step in roll._grants:
        start, over = [first if name == second else name for name in step]
        if start != over:
            number = roll._grants[step]
            grants[(start, over)] = min(number, grants.get((start, over), number))
    roll._grants = grants


def _grant(roll, number, start, over, by, knew):
    if roll.plat.border(start, over) == 0:
        raise NotBeside(start, over)
    if (start, over) in roll.grants():
        raise Granted(start, over)
    roll._titles.burden(number, (over,), by, good=not knew)
    roll._grants[(start, over)] = number


def _waive(roll, _, start, over):
    if (start, over) not in roll._grants:
        raise UnknownGrant(start, over)
    del roll._grants[(start, over)]


def _charge(roll, number, name, person, amount, lot, by, knew):
    _enter(roll, number, Claim(name, person, amount, lot), None, by, knew)


def _reserve(roll, number, name, amount, lot, until, by, knew):
    if until < roll.present_day:
        raise InvalidDay(until)
    _enter(roll, number, Claim.held(name, amount, lot), until, by, knew)


def _enter(roll, number, claim, last, by, knew):
    ranks = roll.on_paper()
    if claim.name in ranks:
        raise DuplicateName(claim.name)
    if len(ranks) >= RankList.MOST:
        raise TooMany(RankList.MOST)
    roll._titles.burden(number, claim.lot, by, good=not knew)
    roll._paper.enter(number, claim, last)


def _extend(roll, number, name, parcel, by, knew):
    if parcel in roll.on_paper().claim(name).lot:
        raise InsideLot(parcel)
    roll._titles.burden(number, (parcel,), by, good=not knew)
    roll._paper.put_in(number, name, parcel)


# All other deeds change nothing but claims on paper.
_ACTIONS = {
    "sale": _sale, "gift": _gift, "heirs": _heirs, "void": _void, "uphold": _uphold, "divide": _divide,
    "unite": _unite, "grant": _grant, "waive": _waive, "charge": _charge, "reserve": _reserve, "extend": _extend,
}
