"""The errors: by place and by name, with their attributes, codes and base classes."""

import unittest

from deedranks import errors
from support import any_values

ERRORS = """InvalidName(value) InvalidNumber(value) InvalidDay(value) InvalidAmount(value) InvalidShare(value)
    InvalidLot(value) InvalidCell(at) InvalidRow(at) InvalidStep(at) InvalidClaim(at) InvalidDemand(at)
    InvalidPrices(key) InvalidBounds(key) InvalidOwners(key) InvalidOrder(at) InvalidDeed(at) InvalidEntry(at)
    InvalidHeirs() InvalidPlan() InvalidMoving() InvalidCut() InvalidText(line,why) DuplicateName(name)
    DuplicateNumber(number) TooMany(most) Apart(name) NotBeside(first,second) SamePerson(name) Lacking(parcel)
    NotOwner(parcel) AlreadyVoid(number) NotVoid(number) UnlikeLines(first,second) Unlike(name) Reserved(name)
    NotReserved(name) OutsideLot(parcel) InsideLot(parcel) Behind(first,second) Unequal(first,second)
    Granted(start,over) Came(name) Sold(parcel) Unordered(number) NoLeave(person,prices)"""
MISSING = """UnknownParcel(name) UnknownPerson(name) UnknownClaim(name) UnknownDeed(number) UnknownEntry(number)
    UnknownGrant(start,over)"""


def listed():
    """Triples (class, base class, names of its parameters)."""
    rows = [(word, errors.RollError) for word in ERRORS.split()] + [(word, errors.Missing) for word in MISSING.split()]
    rows.append(("NothingLeft()", IndexError))
    for word, base in rows:
        name, rest = word[:-1].split("(")
        yield getattr(errors, name), base, rest.split(",") if rest else []


class Errors(unittest.TestCase):
    def test_there_are_52_with_these_base_classes(self):
        rows = list(listed())
        self.assertEqual(len(rows), 52)
        for error, base, _ in rows:
            self.assertEqual(error.__bases__, (base,))
            self.assertEqual(error.__module__, "deedranks.errors")

    def test_both_base_classes(self):
        self.assertEqual(errors.RollError.__bases__, (ValueError,))
        self.assertEqual(errors.Missing.__bases__, (LookupError,))
        self.assertFalse(hasattr(errors.RollError("words"), "code"))
        self.assertFalse(hasattr(errors.Missing("words"), "code"))
        self.assertFalse(hasattr(errors.RollError, "code"))

    def test_attributes_by_place_and_by_name(self):
        for error, _, names in listed():
            told = [object() for _ in names]
            for made in (error(*told), error(**dict(zip(names, told)))):
                self.assertEqual(made.code, error.__name__)
                self.assertEqual(sorted(vars(made)), sorted(names + ["code"]))
                for name, value in zip(names, told):
                    self.assertIs(getattr(made, name), value)

    def test_any_values_are_kept(self):
        for value in any_values():
            for error, _, names in listed():
                made = error(*[value for _ in names])
                for name in names:
                    self.assertIs(getattr(made, name), value)

    def test_wrong_counts_of_arguments(self):
        for error, _, names in listed():
            with self.assertRaises(TypeError):
                error(*[1 for _ in names], 1)
            if names:
                with self.assertRaises(TypeError):
                    error()

    def test_no_error_is_one_of_another_class(self):
        rows = list(listed())
        for error, base, names in rows:
            made = error(*[1 for _ in names])
            for other, _, _ in rows:
                self.assertEqual(isinstance(made, other), error is other)
            for top in (errors.RollError, errors.Missing):
                self.assertEqual(isinstance(made, top), base is top)

    def test_they_can_be_raised_and_caught_by_their_base_classes(self):
        with self.assertRaises(ValueError):
            raise errors.InvalidText(3, "form")
        with self.assertRaises(LookupError):
            raise errors.UnknownGrant("a", "b")
        with self.assertRaises(IndexError):
            raise errors.NothingLeft()


if __name__ == "__main__":
    unittest.main()
