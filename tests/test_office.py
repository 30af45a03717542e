"""Offices, readings and the roll of a day: [44], [45], [46]."""

import inspect
import itertools
import random
import unittest

from deedranks.entries import Entry
from deedranks.errors import DuplicateNumber, InvalidDay, InvalidEntry, InvalidOwners, TooMany, UnknownEntry, Unordered
from deedranks.office import Office
from deedranks.plats import Plat
from deedranks.rolls import Roll
from deedranks.shares import Share
from plain import records
from support import Case, any_values

PLAT = Plat([["a", "a", "b"]], road=[(0, 0)])
OWNERS = {"a": "ann", "b": "bob"}
GIFT = ("gift", ("a",), "ann", "dan", Share(1, 2))
MERGE = ("merge", "one")


def charge(name, lot=("a",), by=("ann",)):
    return ("charge", name, "cyd", 100, lot, by, False)


def office_of(*entries):
    """An office with entries of these items, on the day 0."""
    office = Office(PLAT, OWNERS)
    for entry in entries:
        office.put(entry if isinstance(entry, Entry) else Entry(*entry))
    return office


def state(office):
    told = [[str(entry) for entry in office.entries()], office.today, len(office), repr(office), office.busy]
    return told + [records(office.roll(day=day, known=known)) for day in (0, 5, 50) for known in (0, 5, 50)]


def is_plain_day(value):
    return isinstance(value, int) and not isinstance(value, bool) and 0 <= value <= 9999


class Offices(Case):
    def test_at_first(self):
        office = Office(PLAT, OWNERS)
        self.same([len(office), office.entries(), office.today, repr(office), office.busy, Office.MOST],
                  [0, [], 0, "Office(0 entries)", False, 40])
        self.same([office.readings(), office.idle(), list(office.walk())], [[], {}, []])
        self.assertEqual(records(office.roll()), records(Roll(PLAT, OWNERS)))
        self.assertEqual(state(Office(owners=OWNERS, plat=PLAT)), state(office))
        for name in ("today", "busy"):
            self.assertIsInstance(vars(Office)[name], property)

    def test_owners_that_are_wrong(self):
        for value in any_values():
            if not isinstance(value, dict):
                self.fails(InvalidOwners, lambda: Office(PLAT, value), None)
            self.fails(InvalidOwners, lambda: Office(PLAT, {"b": value, "a": "ann"}), "b")
        self.fails(InvalidOwners, lambda: Office(PLAT, {"c": "ann", "b": 5}), "c")
        self.fails(InvalidOwners, lambda: Office(PLAT, {"b": "bob"}), "a")
        self.fails(InvalidOwners, lambda: Office(PLAT, {}), "a")

    def test_owners_are_copied(self):
        given = dict(OWNERS)
        office = Office(PLAT, given)
        given["a"] = "zz"
        given["c"] = 5
        self.same(office.roll().titles().first_owner("a"), "ann")
        self.same(office.twin().roll().titles().first_owner("a"), "ann")

    def test_the_present_day(self):
        office = Office(PLAT, OWNERS)
        office.turn_to(day=5)
        self.same(office.today, 5)
        office.today = 7
        self.same(office.today, 7)
        office.today = 7
        office.turn_to(7)
        for value in any_values() + [6, 0, 10000]:
            if not is_plain_day(value) or value < 7:
                self.fails(InvalidDay, lambda: office.turn_to(value), value)
                self.fails(InvalidDay, lambda: setattr(office, "today", value), value)
        self.same([office.today, office.twin().today], [7, 7])
        office.today = 9999
        self.same(office.today, 9999)
        with self.assertRaises(AttributeError):
            office.busy = True

    def test_entries(self):
        entries = [Entry(7, 1, 2, GIFT), Entry(2, 0, 1, MERGE), Entry(9, 0, 2, ("void", 7))]
        office = office_of(*entries)
        self.same([office.entries() == [entries[1], entries[0], entries[2]], len(office), repr(office)],
                  [True, 3, "Office(3 entries)"])
        self.assertTrue(office.entry(7) == entries[0])
        self.assertTrue(office.entry(number=2) == entries[1])
        self.same([number in office for number in (2, 7, 9, 1, 3, 1000)], [True, True, True, False, False, False])
        for value in any_values() + [3, 999, entries[0]]:
            self.assertIs(value in office, False)
            self.fails(UnknownEntry, lambda: office.entry(value), value)
        one = office_of((1, 0, 0, MERGE))
        self.same([True in one, 1 in one, repr(one)], [False, True, "Office(1 entries)"])
        self.fails(UnknownEntry, lambda: one.entry(True), True)


class Putting(Case):
    def refused(self, office, error, entry, *told):
        before = state(office)
        self.fails(error, lambda: office.put(entry), *told)
        self.fails(error, lambda: office.tried(entry), *told)
        self.same([office.busy, state(office) == before], [False, True])

    def test_values_that_are_no_entries(self):
        full = office_of(*[(number, 0, 5, MERGE) for number in range(1, 41)])
        for value in any_values() + ["7 1 2 merge one", (7, 1, 2, MERGE)]:
            if not isinstance(value, Entry):
                self.fails(InvalidEntry, lambda: Office(PLAT, OWNERS).put(value), 0)
                self.fails(InvalidEntry, lambda: full.put(entry=value), 0)
                self.fails(InvalidEntry, lambda: full.tried(value, value, day=-1), 0)

    def test_forty_entries(self):
        full = office_of(*[(number, 0, 5, MERGE) for number in range(1, 41)])
        self.same(len(full), 40)
        # In the order of the errors: one more, with a number that is there, and in a wrong order.
        for entry in (Entry(41, 0, 5, MERGE), Entry(7, 0, 5, MERGE), Entry(50, 0, 3, MERGE)):
            self.refused(full, TooMany, entry, 40)

    def test_numbers_that_are_there(self):
        office = office_of((7, 0, 5, MERGE), (9, 0, 6, MERGE))
        for entry in (Entry(7, 0, 5, MERGE), Entry(7, 0, 9, GIFT), Entry(9, 0, 0, MERGE)):
            self.refused(office, DuplicateNumber, entry, entry.number)

    def test_the_order_of_the_days(self):
        office = office_of((10, 0, 5, MERGE), (20, 0, 7, MERGE))
        for number, entered in ((11, 4), (30, 6), (30, 0), (5, 6), (15, 8), (15, 4), (21, 5), (9, 9)):
            self.refused(office, Unordered, Entry(number, 0, entered, MERGE), number)
        for number, entered in ((5, 5), (5, 0), (15, 5), (15, 6), (15, 7), (30, 7), (30, 100)):
            other = office.twin()
            other.put(Entry(number, 0, entered, MERGE))
            self.same(len(other), 3)
        # The days on which they were done mean nothing here.
        office.put(Entry(15, 0, 6, MERGE))
        office.put(Entry(14, 6, 6, MERGE))

    def test_each_order_of_arrival(self):
        entries = [Entry(1, 0, 1, charge("one")), Entry(2, 3, 3, GIFT), Entry(5, 1, 3, ("strike", 2)),
                   Entry(7, 0, 4, ("instead", 1, charge("two")))]
        first = state(office_of(*entries))
        for order in itertools.permutations(entries):
            self.assertEqual(state(office_of(*order)), first)

    def test_what_is_put_later_with_a_lower_number(self):
        # The charge was laid by ann alone, and became idle as soon as the gift ahead of it was known.
        office = office_of((2, 5, 6, charge("one")), (1, 3, 4, ("gift", ("a",), "ann", "dan", Share(1, 3))))
        self.same([office.idle(day=9, known=9), office.idle(day=9, known=5)], [{2: "NotOwner"}, {}])
        self.same(str(office.roll(day=4, known=9).titles().share_of("a", "dan")), "1/3")


class Readings(Case):
    def read(self, known, expected, *entries):
        self.same([number for number, _ in office_of(*entries).readings(known=known)], expected)

    def test_known_entries(self):
        office = office_of((1, 0, 2, GIFT), (2, 0, 4, MERGE))
        for known, numbers in ((0, []), (1, []), (2, [1]), (3, [1]), (4, [1, 2]), (9999, [1, 2])):
            self.same([number for number, _ in office.readings(known=known)], numbers)
        self.same(office.readings(), [])
        office.today = 3
        self.same([office.readings(), office.readings(known=None)], [[(1, GIFT)], [(1, GIFT)]])
        self.same(office.readings(known=9), [(1, GIFT), (2, MERGE)])

    def test_strikes(self):
        self.read(9, [2], (1, 0, 0, GIFT), (2, 0, 0, MERGE), (3, 0, 0, ("strike", 1)))
        # A strike of a strike, and one of that.
        rows = [(1, 0, 1, GIFT), (2, 0, 2, ("strike", 1)), (3, 0, 3, ("strike", 2)), (4, 0, 4, ("strike", 3))]
        for known, expected in ((1, [1]), (2, []), (3, [1]), (4, []), (9, [])):
            self.read(known, expected, *rows)
        # Two strikes of one entry, of which one is struck.
        self.read(9, [], (1, 0, 0, GIFT), (2, 0, 0, ("strike", 1)), (3, 0, 0, ("strike", 1)), (4, 0, 0, ("strike", 2)))
        self.read(9, [1], (1, 0, 0, GIFT), (2, 0, 0, ("strike", 1)), (3, 0, 0, ("strike", 1)), (4, 0, 0, ("strike", 2)),
                  (5, 0, 0, ("strike", 3)))
        # A strike of no known entry.
        self.read(9, [1], (1, 0, 0, GIFT), (3, 0, 0, ("strike", 2)))

    def test_the_day_of_a_correction_means_nothing(self):
        rows = [(1, 0, 1, GIFT), (5, 9, 9, ("strike", 1))]
        office = office_of(*rows)
        self.same([office.readings(known=8), office.readings(known=9)], [[(1, GIFT)], []])
        self.same([list(office.walk(day=3, known=9)), list(office.walk(day=3, known=8))], [[], [(0, 1, "")]])

    def test_insteads(self):
        two, three = charge("two"), charge("three")
        office = office_of((1, 0, 1, GIFT), (2, 0, 2, ("instead", 1, two)), (3, 0, 3, ("instead", 1, three)),
                           (4, 0, 4, ("strike", 3)), (5, 0, 5, ("strike", 2)), (6, 0, 6, ("strike", 4)))
        for known, deed in ((1, GIFT), (2, two), (3, three), (4, two), (5, GIFT), (6, three)):
            self.same(office.readings(known=known), [(1, deed)])

    def test_an_instead_of_an_entry_that_is_struck(self):
        office = office_of((1, 0, 1, GIFT), (2, 0, 2, ("instead", 1, MERGE)), (3, 0, 3, ("strike", 1)),
                           (4, 0, 4, ("strike", 3)))
        self.same([office.readings(known=known) for known in (3, 4)], [[], [(1, MERGE)]])

    def test_corrections_that_mean_nothing(self):
        # An instead that names a correction, and corrections that name the number of no known entry.
        office = office_of((1, 0, 1, GIFT), (2, 0, 2, ("strike", 1)), (3, 0, 3, ("instead", 2, MERGE)),
                           (5, 0, 5, ("instead", 4, MERGE)), (7, 0, 7, ("strike", 6)), (8, 0, 8, ("instead", 5, MERGE)))
        self.same([office.readings(known=known) for known in (1, 2, 3, 5, 7, 8)], [[(1, GIFT)]] + [[]] * 5)
        office.put(Entry(4, 0, 4, charge("four")))
        self.same([office.readings(known=known) for known in (4, 5, 8)], [[(4, charge("four"))]] + [[(4, MERGE)]] * 2)

    def test_what_is_read_is_done_on_its_own_day(self):
        office = office_of((1, 4, 5, GIFT), (2, 3, 5, charge("one")), (9, 1, 8, ("instead", 1, charge("two"))))
        self.same(list(office.walk(day=9, known=5)), [(3, 2, ""), (4, 1, "")])
        self.same(list(office.walk(day=9, known=8)), [(3, 2, ""), (4, 1, "")])
        self.same(office.roll(day=9, known=8).places(), [(1, "two"), (2, "one")])
        self.same(office.roll(day=3, known=8).places(), [(2, "one")])


class Days(Case):
    def test_the_order_of_the_deeds(self):
        office = office_of((1, 5, 5, charge("one")), (2, 3, 5, charge("two")), (3, 5, 5, charge("three")),
                           (4, 4, 5, MERGE))
        self.same(list(office.walk(day=9, known=9)), [(3, 2, ""), (4, 4, "UnknownClaim"), (5, 1, ""), (5, 3, "")])
        self.same(list(office.walk(day=4, known=9)), [(3, 2, ""), (4, 4, "UnknownClaim")])
        self.same(list(office.walk(known=9, day=2)), [])
        self.same([office.idle(day=9, known=9), office.idle(day=3, known=9)], [{4: "UnknownClaim"}, {}])
        self.same(office.roll(day=9, known=9).places(), [(1, "one"), (2, "two"), (3, "three")])
        self.same([office.roll(day=day, known=9).present_day for day in (0, 4, 9)], [0, 4, 9])

    def test_idle_entries(self):
        office = office_of((3, 1, 1, charge("one")), (4, 1, 1, charge("one")), (5, 0, 1, MERGE),
                           (6, 1, 1, ("waive", "a", "b")), (7, 1, 2, ("unite", "a", "b")),
                           (8, 1, 2, ("gift", ("b",), "ann", "bob", Share(1))))
        self.same(office.idle(day=9, known=9), {4: "DuplicateName", 5: "UnknownClaim", 6: "UnknownGrant",
                                               7: "UnlikeLines", 8: "Lacking"})
        self.same(list(office.walk(day=9, known=9))[0], (0, 5, "UnknownClaim"))
        self.same(list(office.idle(day=1, known=1)), [4, 5, 6])
        roll = Roll(PLAT, OWNERS)
        roll.do(3, charge("one"), day=1)
        roll.turn_to(9)
        self.assertEqual(records(office.roll(day=9, known=9)), records(roll))

    def test_the_present_day_is_meant_if_none_is_told(self):
        office = office_of((1, 2, 2, charge("one")), (2, 4, 4, charge("one")), (3, 1, 6, charge("three")))
        for today in (0, 2, 3, 4, 6, 9):
            office.today = today
            for day, known in ((None, None), (None, 4), (4, None), (today, today)):
                asked = {name: value for name, value in (("day", day), ("known", known)) if value is not None}
                full = {"day": today if day is None else day, "known": today if known is None else known}
                self.assertEqual(records(office.roll(**asked)), records(office.roll(**full)))
                self.assertEqual(records(office.roll(day=day, known=known)), records(office.roll(**full)))
                self.same(office.idle(**asked), office.idle(**full))
                self.same(list(office.walk(**asked)), list(office.walk(**full)))
                self.assertEqual(records(office.tried(**asked)), records(office.roll(**full)))
        self.same([office.today, office.idle(), repr(office.roll())], [9, {2: "DuplicateName"}, "Roll(day 9)"])

    def test_reserved_claims_end_with_the_day_that_is_asked_for(self):
        office = office_of((1, 1, 1, ("reserve", "one", 5, ("a",), 4, ("ann",), False)), (2, 5, 5, charge("one")))
        self.same([office.roll(day=day, known=9).on_paper().names() for day in (0, 1, 4, 5, 6)],
                  [[], ["one"], ["one"], ["one"], ["one"]])
        self.same([office.roll(day=day, known=9).places() for day in (4, 5)], [[(1, "one")], [(2, "one")]])
        self.same([office.roll(day=day, known=4).places() for day in (4, 5)], [[(1, "one")], []])

    def test_errors_in_their_order(self):
        office = office_of((1, 2, 2, charge("one")))
        for value in any_values() + [10000]:
            if value is not None and not is_plain_day(value):
                for call in (office.roll, office.idle, lambda **days: list(office.walk(**days)), office.tried):
                    self.fails(InvalidDay, lambda: call(day=value), value)
                    self.fails(InvalidDay, lambda: call(day=value, known=-3), value)
                    self.fails(InvalidDay, lambda: call(known=value), value)
                    self.fails(InvalidDay, lambda: call(known=value, day=10001), 10001)
                self.fails(InvalidDay, lambda: office.readings(known=value), value)
                self.fails(InvalidDay, lambda: office.tried(Entry(2, 5, 5, MERGE), day=value), value)
                self.fails(DuplicateNumber, lambda: office.tried(Entry(1, 5, 5, MERGE), day=value), 1)
        # Earlier days than the present one may be asked for.
        office.today = 9
        self.same(office.roll(day=1, known=2).places(), [])

    def test_walk_is_a_generator(self):
        office = office_of((1, 2, 2, charge("one")))
        self.assertTrue(inspect.isgeneratorfunction(Office.walk))
        rows = office.walk(day=-1)
        with self.assertRaises(InvalidDay):
            next(rows)
        rows = office.walk(day=5, known=5)
        self.same([next(rows), list(rows)], [(2, 1, ""), []])

    def test_days_that_were_asked_for_before(self):
        office = office_of((1, 2, 2, charge("one")), (5, 4, 4, GIFT))
        before = [records(office.roll(day=day, known=known)) for day in range(6) for known in range(4)]
        office.put(Entry(6, 0, 4, ("strike", 1)))
        office.put(Entry(7, 1, 5, ("instead", 5, MERGE)))
        office.put(Entry(2, 1, 4, ("assign", "one", "dan")))
        self.assertEqual([records(office.roll(day=day, known=known)) for day in range(6) for known in range(4)], before)
        self.same(office.idle(day=5, known=5), {2: "UnknownClaim", 5: "UnknownClaim"})


class Tried(Case):
    def test_entries_that_are_tried(self):
        office = office_of((3, 2, 2, charge("one")))
        office.today = 5
        before = state(office)
        entries = [Entry(5, 3, 4, GIFT), Entry(4, 1, 3, charge("two")), Entry(6, 1, 7, charge("three"))]
        other = office.twin()
        for entry in entries:
            other.put(entry)
        self.assertEqual(records(office.tried(*entries)), records(other.roll()))
        self.same(office.tried(*entries).places(), [(3, "one"), (4, "two")])
        self.same(office.tried(*entries, known=9).places(), [(3, "one"), (4, "two"), (6, "three")])
        self.same(office.tried(*entries, known=9, day=1).places(), [(4, "two"), (6, "three")])
        self.assertEqual(records(office.tried()), records(office.roll()))
        self.assertEqual(records(office.tried(*entries, day=1, known=3)), records(other.roll(day=1, known=3)))
        self.same([state(office) == before, office.busy], [True, False])

    def test_errors_in_their_order(self):
        office = office_of((3, 2, 2, charge("one")))
        before = state(office)
        good = Entry(5, 3, 4, GIFT)
        self.fails(DuplicateNumber, lambda: office.tried(good, good), 5)
        self.fails(DuplicateNumber, lambda: office.tried(good, good, None, day=-1), 5)
        self.fails(Unordered, lambda: office.tried(good, Entry(6, 0, 3, GIFT), good), 6)
        self.fails(InvalidEntry, lambda: office.tried(good, None, good), 0)
        self.fails(TooMany, lambda: office.tried(*[Entry(number, 4, 4, MERGE) for number in range(10, 50)]), 40)
        self.fails(InvalidDay, lambda: office.tried(good, day=-1, known=-2), -1)
        self.fails(InvalidDay, lambda: office.tried(good, known=-2), -2)
        self.same([office.busy, state(office) == before], [False, True])

    def test_busy_behind_each_call(self):
        office = Office(PLAT, OWNERS)
        office.put(Entry(3, 2, 2, MERGE))
        self.assertIs(office.busy, False)
        for call in (lambda: office.put(Entry(3, 2, 2, MERGE)), lambda: office.put(None), lambda: office.tried(None),
                     lambda: office.tried(day=-1), lambda: office.tried(known="x")):
            with self.assertRaises(ValueError):
                call()
            self.assertIs(office.busy, False)
        office.tried(Entry(5, 2, 2, MERGE))
        self.assertIs(office.busy, False)

    def test_busy_within_a_call(self):
        seen = []

        class Watched(Entry):
            def __getattribute__(self, name):
                if name in ("number", "entered"):
                    seen.append(office.busy)
                return Entry.__getattribute__(self, name)

        office = Office(PLAT, OWNERS)
        watched = Watched(3, 2, 2, MERGE)
        office.tried(watched)
        office.put(watched)
        self.assertEqual(set(seen[-3:]), {True})
        self.assertIs(office.busy, False)


class Twins(Case):
    def test_twins_that_are_led_apart(self):
        office = office_of((3, 2, 2, charge("one")))
        office.today = 4
        other = office.twin()
        before = state(office)
        self.assertEqual(state(other), before)
        self.assertIs(other.__class__, Office)
        other.put(Entry(5, 2, 4, GIFT))
        other.today = 9
        self.assertEqual(state(office), before)
        behind = state(other)
        office.put(Entry(2, 0, 1, MERGE))
        office.turn_to(5)
        self.assertEqual(state(other), behind)
        self.same([[number in one for number in (2, 3, 5)] for one in (office, other)],
                  [[True, True, False], [False, True, True]])

    def test_what_is_told_is_new(self):
        office = office_of((3, 2, 2, charge("one")), (4, 2, 2, charge("one")))
        office.today = 5
        before = state(office)
        for call in (office.entries, office.readings, office.idle):
            self.assertNotEqual(len(call()), 0)
            call().clear()
        roll = office.roll()
        roll.do(7, ("assign", "one", "zz"))
        roll.turn_to(100)
        tried = office.tried()
        tried.do(7, ("assign", "one", "zz"))
        self.assertEqual(state(office), before)

    def test_equal_calls_return_equal_results(self):
        rng = random.Random("office")
        entries = [Entry(number, rng.randint(0, 3), 3, rng.choice([GIFT, charge("one"), MERGE])) for number in range(1, 9)]
        first, second = office_of(*entries), office_of(*entries[::-1])
        self.assertEqual(state(first), state(first))
        self.assertEqual(state(first), state(second))
        self.assertEqual(first.roll(day=5, known=5).ways().steps(), second.roll(day=5, known=5).ways().steps())


if __name__ == "__main__":
    unittest.main()
