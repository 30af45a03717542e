"""Rolls and offices against plain models, by many random deeds and journals."""

import random
import unittest

from deedranks import errors
from deedranks.deeds import is_deed
from deedranks.entries import Entry
from deedranks.office import Office
from deedranks.plats import Plat
from deedranks.rolls import Roll
from deedranks.shares import Share
from plain import SHARED, PlainRoll, plain_records, records

PEOPLE = ("ann", "bob", "cyd")
ROWS = [["a", "a", "b", "b"], ["a", "a", "b", "b"], ["c", "c", "c", "d"]]
WORDS = ["sale", "gift", "gift", "heirs", "void", "void", "void", "uphold", "uphold", "divide", "divide", "unite", "unite",
         "grant", "grant", "grant", "waive", "charge", "charge", "charge", "charge", "reserve", "reserve", "reserve",
         "fill", "repay", "assign", "part", "part", "merge", "merge", "release", "extend", "extend", "yield", "trade"]


def random_lot(rng, names):
    return tuple(sorted(rng.sample(names, rng.randint(1, min(3, len(names))))))


def random_deed(rng, parcels, cells, claims, most):
    """A deed that can often be done; most is the greatest number that it may name."""
    word = rng.choice(WORDS)
    parcel, over = rng.sample([*parcels, "z"], 2) if rng.random() < 0.1 else rng.sample(parcels * 2, 2)
    claim, other = rng.choice(claims), rng.choice(claims + ["new"])
    person, taker = rng.sample(PEOPLE, 2)
    lot = random_lot(rng, parcels if rng.random() < 0.9 else [*parcels, "z"])
    by = random_lot(rng, PEOPLE) if rng.random() < 0.5 else PEOPLE
    knew = rng.random() < 0.5
    number = rng.randint(1, max(most, 1))
    until = rng.randint(0, 30)
    own = [cell for cell in cells if cells[cell] == parcel] or [(0, 0)]
    part = tuple(rng.sample(own, rng.randint(1, len(own)))) if rng.random() < 0.9 else ((0, 0), (2, 3))
    deeds = {
        "sale": ("sale", lot, person, taker, Share(1, rng.randint(1, 3)), knew),
        "gift": ("gift", lot, person, taker, Share(1, rng.randint(1, 2))),
        "heirs": ("heirs", person, tuple((name, rng.randint(1, 3)) for name in PEOPLE if name != person)),
        "void": ("void", number), "uphold": ("uphold", number),
        "divide": ("divide", parcel, part, rng.choice("efgh")), "unite": ("unite", parcel, over),
        "grant": ("grant", parcel, over, by, knew), "waive": ("waive", parcel, over),
        "charge": ("charge", rng.choice("pqrstuv"), person, rng.randint(1, 3), lot, by, knew),
        "reserve": ("reserve", rng.choice("pqrstuv"), rng.randint(1, 3), lot, until, by, knew),
        "fill": ("fill", claim, person), "repay": ("repay", claim, rng.randint(1, 3)), "assign": ("assign", claim, person),
        "part": ("part", claim, 1, rng.choice("pqrstuv")), "merge": ("merge", claim), "release": ("release", claim, parcel),
        "extend": ("extend", claim, parcel, by, knew), "yield": ("yield", claim, other), "trade": ("trade", claim, other),
    }
    return deeds[word]


def random_good_deed(rng, parcels, cells, claims, most):
    deed = random_deed(rng, parcels, cells, claims, most)
    while not is_deed(deed):
        deed = random_deed(rng, parcels, cells, claims, most)
    return deed


def raised_by(call):
    """None, or the code of the error of a call and its attributes."""
    try:
        call()
    except (errors.RollError, errors.Missing) as error:
        told = vars(error)
        return [told["code"], *[told[name] for name in told if name != "code"]]
    return None


class Against(unittest.TestCase):
    def compare(self, roll, plain):
        told, expected = records(roll), plain_records(plain)
        for name in SHARED:
            self.assertEqual(told[name], expected[name], name)
        numbers = [number for number, _ in told["places"]]
        self.assertEqual(numbers, sorted(numbers))

    def run_one(self, seed, seen):
        rng = random.Random(f"rolls {seed}")
        owners = {parcel: rng.choice(PEOPLE) for parcel in "abcd"}
        if rng.random() < 0.5:
            owners = {parcel: "ann" for parcel in "abcd"}
        roll, plain = Roll(Plat(ROWS, road=[(0, 0)]), owners), PlainRoll(ROWS, owners)
        numbers = rng.sample(range(1, 80), 45)
        for number in numbers:
            claims = [claim["name"] for claim in plain.paper] or ["p"]
            deed = random_good_deed(rng, plain.parcels(), plain.cells, claims, 79)
            if deed[0] in ("void", "uphold") and plain.used and rng.random() < 0.9:
                deed = (deed[0], rng.choice(sorted(plain.used)))
            day = plain.day + rng.choice([0, 0, 0, 1, 2])
            before = records(roll)
            former = roll.twin() if rng.random() < 0.2 else None
            expected = plain.do(number, deed, day)
            found = raised_by(lambda: roll.do(number, deed, day=day))
            self.assertEqual(found, expected, deed)
            if expected is not None:
                self.assertEqual(records(roll), before)
            self.compare(roll, plain)
            if former is not None:
                self.assertEqual(records(former), before)
            seen.setdefault((deed[0], expected[0] if expected else ""), deed)

    def test_random_deeds(self):
        seen = {}
        for seed in range(90):
            self.run_one(seed, seen)
        expected = """sale: sale:Lacking sale:UnknownParcel gift: gift:Lacking heirs: heirs:UnknownPerson void: uphold:
            void:UnknownDeed void:AlreadyVoid uphold:NotVoid uphold:UnknownDeed divide: divide:DuplicateName
            divide:Apart divide:InvalidCell divide:UnknownParcel unite: unite:NotBeside unite:UnlikeLines
            unite:UnknownParcel grant: grant:NotBeside grant:Granted grant:NotOwner grant:UnknownParcel waive:
            waive:UnknownGrant charge: charge:DuplicateName charge:UnknownParcel charge:NotOwner reserve:
            reserve:InvalidDay reserve:DuplicateName reserve:NotOwner fill: fill:NotReserved fill:UnknownClaim
            repay: repay:InvalidAmount repay:UnknownClaim assign: assign:Reserved part: part:InvalidAmount
            part:DuplicateName merge: merge:Unlike release: release:OutsideLot extend: extend:InsideLot
            extend:NotOwner yield: yield:Behind yield:Reserved yield:Unequal yield:UnknownClaim trade: trade:Behind
            trade:UnknownClaim"""
        missing = [pair for pair in expected.split() if tuple(pair.split(":")) not in seen]
        self.assertEqual(missing, [])


def plain_readings(entries, known):
    """The readings of [45], each question asked anew."""
    there = [entry for entry in entries if entry.entered <= known]

    def struck(number):
        return any(entry.deed[0] == "strike" and entry.deed[1] == number and not struck(entry.number) for entry in there)

    rows = []
    for entry in sorted(there, key=lambda one: one.number):
        if entry.deed[0] in ("strike", "instead") or struck(entry.number):
            continue
        others = [other for other in there if other.deed[0] == "instead" and other.deed[1] == entry.number
                  and not struck(other.number)]
        deed = max(others, key=lambda one: one.number).deed[2] if others else entry.deed
        rows.append((entry.number, deed))
    return rows


def plain_roll_of(owners, entries, day, known):
    """A plain roll of a day as known on a day, and the triples (day, number, word)."""
    roll, rows = PlainRoll(ROWS, owners), []
    dones = {entry.number: entry.done for entry in entries}
    due = [(dones[number], number, deed) for number, deed in plain_readings(entries, known) if dones[number] <= day]
    for done, number, deed in sorted(due, key=lambda row: row[:2]):
        error = roll.do(number, deed, done)
        rows.append((done, number, error[0] if error else ""))
    roll.turn(day)
    return roll, rows


def random_journal(rng):
    """Entries in the order of their numbers, many of them corrections."""
    cells = {(row, column): name for row, names in enumerate(ROWS) for column, name in enumerate(names)}
    entries, day = [], 0
    for number in sorted(rng.sample(range(1, 60), rng.randint(1, 25))):
        day += rng.choice([0, 0, 1, 2])
        done = rng.randint(max(0, day - 6), day)
        most = max(number - 1, 1)
        named = rng.choice([entry.number for entry in entries] or [1]) if rng.random() < 0.9 else rng.randint(1, most)
        kind = rng.random()
        if number == 1 or kind > 0.35:
            deed = random_good_deed(rng, list("abcd"), cells, list("pqrs"), most)
        elif kind > 0.2:
            deed = ("strike", named)
        else:
            deed = ("instead", named, random_good_deed(rng, list("abcd"), cells, list("pqrs"), max(named - 1, 1)))
        try:
            entries.append(Entry(number, done, day, deed))
        except errors.InvalidNumber:
            pass
    return entries


class Offices(unittest.TestCase):
    def test_random_journals(self):
        words = set()
        for seed in range(80):
            rng = random.Random(f"offices {seed}")
            owners = {parcel: rng.choice(["ann", "ann", "bob"]) for parcel in "abcd"}
            entries = random_journal(rng)
            office = Office(Plat(ROWS, road=[(0, 0)]), owners)
            for entry in rng.sample(entries, len(entries)):
                office.put(entry)
            last = max([entry.entered for entry in entries] or [0])
            for _ in range(4):
                day, known = rng.randint(0, last + 1), rng.randint(0, last + 1)
                self.assertEqual(office.readings(known=known), plain_readings(entries, known))
                plain, rows = plain_roll_of(owners, entries, day, known)
                self.assertEqual(list(office.walk(day=day, known=known)), rows)
                idle = {number: word for _, number, word in rows if word}
                self.assertEqual(list(office.idle(day=day, known=known).items()), sorted(idle.items()))
                told, expected = records(office.roll(day=day, known=known)), plain_records(plain)
                for name in SHARED:
                    self.assertEqual(told[name], expected[name], name)
                words |= set(idle.values())
        self.assertGreater(len(words), 12)

    def test_later_entries_change_nothing_of_what_was_known(self):
        for seed in range(12):
            rng = random.Random(f"later {seed}")
            entries = random_journal(rng)
            office = Office(Plat(ROWS, road=[(0, 0)]), {parcel: "ann" for parcel in "abcd"})
            told = {}
            for entry in entries:
                office.put(entry)
                for known in range(entry.entered):
                    told.setdefault(known, self.told(office, known))
                    self.assertEqual(self.told(office, known), told[known])

    def told(self, office, known):
        return [office.readings(known=known), office.idle(day=20, known=known),
                plain_shared(office.roll(day=20, known=known))]


def plain_shared(roll):
    told = records(roll)
    return [told[name] for name in SHARED]


if __name__ == "__main__":
    unittest.main()
