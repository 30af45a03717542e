"""Whom an entry hurts: [50]."""

import itertools
import random
import unittest

from deedranks.consents import hurt_by
from deedranks.entries import Entry
from deedranks.errors import DuplicateNumber, InvalidEntry, TooMany, Unordered
from deedranks.office import Office
from deedranks.plats import Plat
from deedranks.shares import Share
from plain import records
from support import Case, any_values, plain_totals

PLAT = Plat([["a", "b", "c"]], road=[(0, 0)])
OWNERS = {"a": "ann", "b": "ann", "c": "ann"}
BY = ("ann", "bob", "cyd", "dan", "eve")
MERGE = ("merge", "one")


def charge(name, person, amount, lot, knew=False):
    return ("charge", name, person, amount, lot, BY, knew)


BASE = [
    ("gift", ("c",), "ann", "bob", Share(1)),
    charge("one", "dan", 2, ("a", "b")),
    charge("two", "eve", 1, ("a",)),
    ("reserve", "held", 1, ("b",), 50, BY, False),
    charge("three", "dan", 1, ("b",)),
    charge("four", "fay", 2, ("a", "b")),
]


def office_of(deeds, today=9):
    office = Office(PLAT, OWNERS)
    for at, deed in enumerate(deeds):
        office.put(Entry(at + 1, 1, 1, deed))
    office.today = today
    return office


def plain_pays(ranks, prices):
    pays = {}
    for claim, (_, total) in zip(ranks, plain_totals(ranks, prices)):
        if claim.owner is not None:
            pays[claim.owner] = pays.get(claim.owner, 0) + total
    return pays


def plain_hurt(before, after):
    """All who are hurt, at all prices of the parcels up to the sums of all amounts."""
    most = max([sum(claim.amount for claim in ranks) for ranks in (before, after)])
    parcels = sorted(set(before.parcels()) | set(after.parcels()))
    hurt = set()
    for row in itertools.product(range(most + 1), repeat=len(parcels)):
        prices = dict(zip(parcels, row))
        old, new = plain_pays(before, prices), plain_pays(after, prices)
        hurt |= {person for person in old if new.get(person, 0) < old[person]}
    return sorted(hurt)


class Hurt(Case):
    def check(self, office, deed, expected=None, done=9):
        entry = Entry(99, done, 9, deed)
        before = [len(office), office.today, records(office.roll())]
        with_it = office.twin()
        with_it.put(entry)
        found = hurt_by(office, entry)
        self.same(found, plain_hurt(office.roll().ranks(), with_it.roll().ranks()))
        if expected is not None:
            self.same(found, expected)
        self.same([len(office), office.today, office.busy], before[:2] + [False])
        self.assertEqual(records(office.roll()), before[2])

    def test_each_kind_of_deed(self):
        office = office_of(BASE)
        for deed, expected in (
                (charge("five", "zz", 1, ("a", "b")), []),
                (("reserve", "five", 1, ("a", "b"), 50, BY, False), []),
                (("repay", "one", 1), ["dan"]), (("repay", "one", 2), ["dan"]), (("repay", "held", 1), []),
                (("fill", "held", "eve"), ["dan", "fay"]), (("assign", "two", "fay"), ["eve"]),
                (("assign", "one", "dan"), []), (("part", "one", 1, "rest"), []), (("merge", "one"), []),
                (("release", "two", "a"), ["eve"]), (("extend", "two", "b", BY, False), ["dan", "fay"]),
                (("yield", "two", "three"), ["dan", "eve"]), (("trade", "one", "two"), ["dan"]),
                (("gift", ("a",), "ann", "zz", Share(1)), []), (("divide", "a", ((0, 0),), "d"), []),
                (("waive", "a", "b"), []), (("heirs", "ann", (("zz", 1),)), [])):
            self.check(office, deed, expected)
        self.check(office, ("release", "one", "a"))
        self.check(office, ("release", "one", "b"))
        self.check(office, ("trade", "two", "four"))

    def test_a_charge_ahead_of_others(self):
        office = Office(PLAT, OWNERS)
        office.put(Entry(50, 1, 1, charge("one", "dan", 1, ("a",))))
        office.today = 9
        self.same(hurt_by(office, Entry(7, 1, 1, charge("two", "eve", 1, ("a",)))), ["dan"])
        self.same(hurt_by(office, Entry(70, 1, 1, charge("two", "eve", 1, ("a",)))), [])

    def test_corrections(self):
        office = office_of(BASE)
        self.check(office, ("strike", 2), ["dan"])
        self.check(office, ("strike", 3), ["eve"])
        self.check(office, ("strike", 4), [])
        self.check(office, ("strike", 1), [])
        self.check(office, ("instead", 3, charge("two", "eve", 1, ("a", "b"))))
        self.check(office, ("instead", 3, charge("two", "eve", 2, ("a",))), ["dan", "fay"])
        self.check(office, ("instead", 1, MERGE), [])
        self.check(office, ("strike", 77), [])

    def test_voids(self):
        office = office_of(BASE)
        self.check(office, ("void", 2), ["dan"])
        self.check(office, ("void", 3), ["eve"])
        self.check(office, ("void", 4), [])
        self.check(office, ("uphold", 2), [])
        other = office_of(BASE + [("void", 3)])
        self.check(other, ("uphold", 3), ["dan", "fay"])

    def test_what_is_not_known_or_not_done_yet(self):
        office = office_of(BASE)
        self.same([hurt_by(office, Entry(99, 9, 9, ("strike", 2))), hurt_by(office, Entry(99, 9, 10, ("strike", 2)))],
                  [["dan"], []])
        self.same([hurt_by(office, Entry(99, 9, 9, ("repay", "one", 2))),
                   hurt_by(entry=Entry(99, 10, 10, ("repay", "one", 2)), office=office)], [["dan"], []])
        late = office_of(BASE, today=0)
        self.same(hurt_by(late, Entry(99, 9, 9, ("repay", "one", 2))), [])
        # An idle entry hurts nobody.
        self.same(hurt_by(office, Entry(99, 9, 9, ("repay", "zz", 2))), [])

    def test_reserved_claims_end_with_the_present_day(self):
        office = office_of(BASE, today=60)
        self.same(hurt_by(office, Entry(99, 1, 60, ("fill", "held", "zz"))), ["dan", "fay"])
        self.same(hurt_by(office, Entry(99, 51, 60, ("fill", "held", "zz"))), [])

    def test_random_journals(self):
        seen = set()
        for at in range(40):
            rng = random.Random(f"consents {at}")
            deeds = []
            for name in "pqr":
                lot = tuple(sorted(rng.sample("ab", rng.randint(1, 2))))
                deeds.append(rng.choice([charge(name, rng.choice(["dan", "eve", "fay"]), rng.randint(1, 2), lot)] * 3 +
                                        [("reserve", name, 1, lot, 50, BY, False)]))
            first, second = rng.sample("pqr", 2)
            deed = rng.choice([
                ("repay", first, 1), ("fill", first, "eve"), ("assign", first, "dan"), ("release", first, "a"),
                ("extend", first, "b", BY, False), ("yield", "p", "r"), ("trade", "p", "q"), ("void", rng.randint(1, 3)),
                ("strike", rng.randint(1, 3)), ("instead", 1, charge("p", "gil", 1, ("b",)))])
            office = office_of(deeds)
            self.check(office, deed)
            seen |= set(hurt_by(office, Entry(99, 9, 9, deed)))
        self.assertEqual(seen, {"dan", "eve", "fay"})

    def test_errors_in_their_order(self):
        office = office_of([charge(name, "dan", 9, (parcel,)) for name, parcel in zip("pqr", "abc")])
        before = records(office.roll())
        for value in any_values():
            if not isinstance(value, Entry):
                self.fails(InvalidEntry, lambda: hurt_by(office, value), 0)
        self.fails(DuplicateNumber, lambda: hurt_by(office, Entry(2, 9, 9, MERGE)), 2)
        self.fails(Unordered, lambda: hurt_by(office, Entry(9, 0, 0, MERGE)), 9)
        # 10 * 10 * 10 price rows.
        self.fails(TooMany, lambda: hurt_by(office, Entry(9, 1, 1, MERGE)), 729)
        small = office_of([charge(name, "dan", 8, (parcel,)) for name, parcel in zip("pqr", "abc")])
        self.same(hurt_by(small, Entry(9, 1, 1, ("repay", "q", 1))), ["dan"])
        full = office_of([charge("p", "dan", 9, ("a",))] + [MERGE] * 39)
        self.fails(TooMany, lambda: hurt_by(full, Entry(99, 9, 9, MERGE)), 40)
        self.same([office.busy, full.busy, len(office), len(full)], [False, False, 3, 40])
        self.assertEqual(records(office.roll()), before)


if __name__ == "__main__":
    unittest.main()
