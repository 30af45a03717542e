"""Offices: journals of entries, and the records of each day as known on each day."""

from deedranks.deeds import is_correction
from deedranks.entries import Entry
from deedranks.errors import DuplicateNumber, InvalidDay, InvalidEntry, Missing, RollError, TooMany, UnknownEntry
from deedranks.errors import Unordered
from deedranks.rolls import Roll, check_owners
from deedranks.words import is_day, is_entry_number


class Office:
    """A plat, the first owners of its parcels, and a journal, without entries at first."""

    MOST = 40

    def __init__(self, plat, owners):
        check_owners(plat, owners)
        self._plat = plat
        self._owners = dict(owners)
        self._entries = {}
        self._today = 0
        self._busy = False

    def __len__(self):
        return len(self._entries)

    def __contains__(self, x):
        return is_entry_number(x) and x in self._entries

    def __repr__(self):
        return f"Office({len(self._entries)} entries)"

    @property
    def today(self):
        """The present day."""
        return self._today

    @today.setter
    def today(self, value):
        self.turn_to(value)

    @property
    def busy(self):
        """Whether a call of put or tried is at work."""
        return self._busy

    def turn_to(self, day):
        """Changes the present day."""
        if not is_day(day) or day < self._today:
            raise InvalidDay(day)
        self._today = day

    def put(self, entry):
        """Puts an entry into the journal."""
        self._busy = True
        try:
            self._check(entry)
            self._entries[entry.number] = entry
        finally:
            self._busy = False

    def entries(self):
        """The list of the entries, by numbers."""
        return [self._entries[number] for number in sorted(self._entries)]

    def entry(self, number):
        """The entry with a number."""
        if number not in self:
            raise UnknownEntry(number)
        return self._entries[number]

    def readings(self, *, known=None):
        """The list of the pairs (number, deed) of the entries that are read, as known on a day, by numbers."""
        day = self._asked_day(known)
        there = [entry for entry in self.entries() if entry.entered <= day]
        struck = _struck(there)
        in_force = [entry for entry in there if entry.number not in struck]
        # Of several insteads that name one entry the last one has the highest number.
        insteads = {entry.deed[1]: entry.deed[2] for entry in in_force if entry.deed[0] == "instead"}
        return [(entry.number, insteads.get(entry.number, entry.deed)) for entry in in_force
                if not is_correction(entry.deed)]

    def roll(self, *, day=None, known=None):
        """The roll of a day, as known on a day."""
        return self._done(day, known)[0]

    def idle(self, *, day=None, known=None):
        """The dict from the numbers of the idle entries to their words."""
        words = {number: word for _, number, word in self._done(day, known)[1] if word != ""}
        return {number: words[number] for number in sorted(words)}

    def walk(self, *, day=None, known=None):
        """The triples (day, number, word) of the entries that are done, in their order."""
        rows = self._done(day, known)[1]
        yield from rows

    def tried(self, *entries, day=None, known=None):
        """The roll that the office would tell if these entries were put in."""
        self._busy = True
        try:
            other = self.twin()
            for entry in entries:
                other.put(entry)
            return other.roll(day=day, known=known)
        finally:
            self._busy = False

    def twin(self):
        """An independent office in the same state."""
        other = Office(self._plat, self._owners)
        other._entries = dict(self._entries)
        other._today = self._today
        return other

    def _check(self, entry):
        if not isinstance(entry, Entry):
            raise InvalidEntry(0)
        if len(self._entries) >= Office.MOST:
            raise TooMany(Office.MOST)
        if entry.number in self._entries:
            raise DuplicateNumber(entry.number)
        for other in self.entries():
            lower, higher = (other, entry) if other.number < entry.number else (entry, other)
            if lower.entered > higher.entered:
                raise Unordered(entry.number)

    def _asked_day(self, day):
        """A day that is asked for, None for the present one."""
        if day is None:
            return self._today
        if not is_day(day):
            raise InvalidDay(day)
        return day

    def _done(self, day, known):
        """The roll of a day, and the list of the triples (day, number, word) of what was done."""
        last = self._asked_day(day)
        deeds = dict(self.readings(known=known))
        roll = Roll(self._plat, self._owners)
        rows = []
        for done, number in sorted([(self._entries[number].done, number) for number in deeds]):
            if done <= last:
                rows.append((done, number, _word(roll, number, deeds[number], done)))
        roll.turn_to(last)
        return roll, rows


def are_same(first, second):
    """Whether two offices have equal plats, first owners, journals and present days."""
    return (first._plat == second._plat and first._owners == second._owners and first._entries == second._entries
            and first._today == second._today)


def _struck(entries):
    """The list of the numbers that strikes in force name. Each one names a lower number, so the highest comes first."""
    struck = []
    for entry in reversed(list(entries)):
        if entry.deed[0] == "strike" and entry.number not in struck:
            struck.append(entry.deed[1])
    return struck


def _word(roll, number, deed, day):
    """Does a deed; the empty string, or the code of the error if it is idle."""
    try:
        roll.do(number, deed, day=day)
    except (RollError, Missing) as error:
        return error.code
    return ""
