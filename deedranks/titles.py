"""Titles: who owns which shares of parcels, and why."""

from deedranks.errors import AlreadyVoid, DuplicateName, DuplicateNumber, InvalidHeirs, InvalidLot, InvalidName
from deedranks.errors import InvalidNumber, InvalidOwners, InvalidShare, Lacking, NotOwner, NotVoid, SamePerson
from deedranks.errors import UnknownDeed, UnknownParcel, UnknownPerson, UnlikeLines
from deedranks.lines import burdened_line, dealt_line, judged_chain, judged_line, length_of, new_line, owners_of
from deedranks.shares import Share
from deedranks.words import is_entry_number, is_lot, is_name, is_number


class Titles:
    """The titles of some parcels."""

    def __init__(self, owners):
        if not isinstance(owners, dict) or not 1 <= len(owners) <= 12:
            raise InvalidOwners(None)
        for parcel in owners:
            if not is_name(parcel) or not is_name(owners[parcel]):
                raise InvalidOwners(parcel)
        self._first = {parcel: owners[parcel] for parcel in owners}
        self._lines = {parcel: new_line(owners[parcel]) for parcel in owners}
        self._numbers = {}
        # From the numbers of items to whether they are good, and from void numbers to those by which they are void.
        self._goods = {}
        self._voids = {}

    def __len__(self):
        return len(self._lines)

    def __repr__(self):
        return f"Titles({len(self._lines)} parcels)"

    def give(self, number, lot, giver, taker, share, *, good=False):
        """Gives the share of each parcel of the lot."""
        self._check_number(number)
        self._check_lot(lot)
        for person in (giver, taker):
            if not is_name(person):
                raise InvalidName(person)
        if giver == taker:
            raise SamePerson(giver)
        if not is_given_share(share):
            raise InvalidShare(share)
        for parcel in lot:
            if length_of(self._lines[parcel], giver).less(share):
                raise Lacking(parcel)
        self._numbers[number] = True
        self._goods[number] = good
        for parcel in lot:
            self._lines[parcel] = dealt_line(self._lines[parcel], giver, [(share, (number, (giver,), taker))])

    def inherit(self, number, person, heirs):
        """Deals out all points of a person to the heirs."""
        self._check_number(number)
        if not is_name(person):
            raise InvalidName(person)
        if not are_heirs(person, heirs):
            raise InvalidHeirs()
        if person not in self.persons():
            raise UnknownPerson(person)
        self._numbers[number] = True
        self._goods[number] = False
        whole = sum([weight for _, weight in heirs])
        for parcel in self.parcels():
            line = self._lines[parcel]
            length = length_of(line, person)
            parts = [(length * Share(weight, whole), (number, (person,), heir)) for heir, weight in heirs]
            self._lines[parcel] = dealt_line(line, person, parts)

    def burden(self, number, lot, by, *, good=False):
        """Lays a burden upon each parcel of the lot, by a lot of persons."""
        self._check_number(number)
        self._check_lot(lot)
        if not is_lot(by):
            raise InvalidLot(by)
        for parcel in lot:
            if any([owner not in by for owner in owners_of(self._lines[parcel])]):
                raise NotOwner(parcel)
        self._numbers[number] = True
        self._goods[number] = good
        for parcel in lot:
            self._lines[parcel] = burdened_line(self._lines[parcel], (number, by, ""))

    def void(self, number, target):
        """Makes the number target void by an entry number."""
        self._check_number(number)
        self._check_target(target)
        if target in self._voids:
            raise AlreadyVoid(target)
        self._numbers[number] = True
        self._voids[target] = number
        self._judge()

    def uphold(self, number, target):
        """Upholds the number target, so that it is not void any more."""
        self._check_number(number)
        self._check_target(target)
        if target not in self._voids:
            raise NotVoid(target)
        self._numbers[number] = True
        del self._voids[target]
        self._judge()

    def divide(self, parcel, new):
        """Makes a new parcel with the line of a parcel."""
        self._check_parcel(parcel)
        if not is_name(new):
            raise InvalidName(new)
        if new in self._lines:
            raise DuplicateName(new)
        self._first[new] = self._first[parcel]
        self._lines[new] = self._lines[parcel]

    def unite(self, first, second):
        """Drops the line of the second one of two parcels with alike lines."""
        self._check_parcel(first)
        self._check_parcel(second)
        if first == second:
            raise DuplicateName(second)
        if not self.alike(first, second):
            raise UnlikeLines(first, second)
        del self._first[second]
        del self._lines[second]

    def parcels(self):
        """The ascending list of the parcels."""
        return sorted(self._lines)

    def persons(self):
        """The ascending list of all persons who have points."""
        return sorted({owner for parcel in self._lines for owner in owners_of(self._lines[parcel])})

    def first_owner(self, parcel):
        """The first owner of a parcel."""
        self._check_parcel(parcel)
        return self._first[parcel]

    def owners(self, parcel):
        """The list of the pairs (person, share) of the owners of a parcel, ascending by persons."""
        self._check_parcel(parcel)
        line = self._lines[parcel]
        return [(person, length_of(line, person)) for person in owners_of(line)]

    def share_of(self, parcel, person):
        """The share of a person in a parcel, 0 without points."""
        self._check_parcel(parcel)
        return length_of(self._lines[parcel], person)

    def stretches(self, parcel):
        """The list of the triples (start, end, person) of the longest stretches of one person."""
        self._check_parcel(parcel)
        rows = []
        for start, end, _, owner in self._lines[parcel]:
            if rows != [] and rows[-1][2] == owner:
                rows[-1] = (rows[-1][0], end, owner)
            else:
                rows.append((start, end, owner))
        return rows

    def chain(self, parcel, at):
        """The list of the tuples (number, givers, taker, counts) of the chain of a point."""
        self._check_parcel(parcel)
        if not isinstance(at, Share) or at.less(Share(0)) or not at.less(Share(1)):
            raise InvalidShare(at)
        items = [chain for start, end, chain, _ in self._lines[parcel] if not at.less(start) and at.less(end)][0]
        counts = self._counts(parcel, items)
        return [(*item, counted) for item, counted in zip(items, counts)]

    def stands(self, number, parcel):
        """Whether any value is the number of an item of a parcel and counts at each point with this item."""
        self._check_parcel(parcel)
        if not is_entry_number(number):
            return False
        told = []
        for _, _, chain, _ in self._lines[parcel]:
            counts = self._counts(parcel, chain)
            told.extend([counted for item, counted in zip(chain, counts) if item[0] == number])
        return told != [] and all(told)

    def alike(self, first, second):
        """Whether two parcels have alike lines."""
        self._check_parcel(first)
        self._check_parcel(second)
        # Lines with equal chains are cut at the same positions, since neighbouring stretches differ in their chains.
        return self._first[first] == self._first[second] and self._lines[first] == self._lines[second]

    def void_by(self, number):
        """The number of the entry by which a number is void, None for any other value."""
        if not is_entry_number(number):
            return None
        return self._voids.get(number)

    def twin(self):
        """Independent titles in the same state."""
        # There may be more parcels by now than titles may begin with, so the twin begins with one of them.
        parcel = self.parcels()[0]
        other = Titles({parcel: self._first[parcel]})
        other._first = dict(self._first)
        other._lines = dict(self._lines)
        other._numbers = dict(self._numbers)
        other._goods = dict(self._goods)
        other._voids = dict(self._voids)
        return other

    def _check_number(self, number):
        if not is_entry_number(number):
            raise InvalidNumber(number)
        if number in self._numbers:
            raise DuplicateNumber(number)

    def _check_parcel(self, parcel):
        if not is_name(parcel) or parcel not in self._lines:
            raise UnknownParcel(parcel)

    def _check_lot(self, lot):
        if not is_lot(lot):
            raise InvalidLot(lot)
        for parcel in lot:
            self._check_parcel(parcel)

    def _check_target(self, target):
        if not is_entry_number(target) or target not in self._goods:
            raise UnknownDeed(target)

    def _counts(self, parcel, chain):
        return judged_chain(chain, self._first[parcel], self._voids, self._goods)[0]

    def _judge(self):
        for parcel in self.parcels():
            self._lines[parcel] = judged_line(self._lines[parcel], self._first[parcel], self._voids, self._goods)


def are_heirs(person, value):
    """Whether any value is a tuple of heirs of a person."""
    if not isinstance(value, tuple) or not 1 <= len(value) <= 4:
        return False
    if not all([_is_heir(heir) for heir in value]):
        return False
    names = [heir[0] for heir in value]
    return person not in names and len(set(names)) == len(names)


def _is_heir(value):
    if not isinstance(value, tuple) or len(value) != 2:
        return False
    return is_name(value[0]) and is_number(value[1], 1, 9)


def is_given_share(value):
    """Whether any value is a share above 0 and at most 1."""
    if not isinstance(value, Share):
        return False
    return Share(0).less(value) and not Share(1).less(value)
