"""Titles: giving, inheriting, burdens, void numbers, dividing and uniting: [13] to [16]."""

import unittest

from deedranks.errors import AlreadyVoid, DuplicateName, DuplicateNumber, InvalidHeirs, InvalidLot, InvalidName
from deedranks.errors import InvalidNumber, InvalidOwners, InvalidShare, Lacking, NotOwner, NotVoid, SamePerson
from deedranks.errors import UnknownDeed, UnknownParcel, UnknownPerson, UnlikeLines
from deedranks.shares import Share
from deedranks.titles import Titles
from support import Case, any_values

HALF, THIRD, WHOLE = Share(1, 2), Share(1, 3), Share(1)


def shares(titles, parcel):
    """The owners of a parcel as a dict with the texts of their shares."""
    return {person: str(share) for person, share in titles.owners(parcel)}


def counts(titles, parcel, at=Share(0)):
    """The numbers of the chain of a point with whether they count."""
    return [(number, counted) for number, _, _, counted in titles.chain(parcel, at)]


def state(titles):
    """All that titles tell."""
    told = [titles.parcels(), titles.persons(), len(titles)]
    for parcel in titles.parcels():
        told.append([titles.first_owner(parcel), titles.owners(parcel), titles.stretches(parcel)])
        told.append([titles.chain(parcel, start) for start, _, _ in titles.stretches(parcel)])
        told.append([titles.chain(parcel, Share(at, 12)) for at in range(12)])
        told.append([titles.stands(number, parcel) for number in range(1, 30)])
    return told + [titles.void_by(number) for number in range(1, 30)]


class Making(Case):
    def test_first_owners(self):
        owners = {"b": "ann", "a": "bob"}
        titles = Titles(owners)
        self.same([titles.parcels(), titles.persons(), len(titles)], [["a", "b"], ["ann", "bob"], 2])
        self.assertEqual([titles.first_owner("a"), titles.first_owner(parcel="b")], ["bob", "ann"])
        self.same(titles.owners("a"), [("bob", WHOLE)])
        self.same(titles.stretches("a"), [(Share(0), WHOLE, "bob")])
        self.same(titles.chain("a", HALF), [])
        self.assertEqual([repr(titles), repr(Titles(owners={"a": "a"}))], ["Titles(2 parcels)", "Titles(1 parcels)"])
        self.assertEqual(owners, {"b": "ann", "a": "bob"})
        owners["c"] = "cyd"
        owners["a"] = "cyd"
        self.assertEqual([titles.parcels(), titles.first_owner("a")], [["a", "b"], "bob"])

    def test_wrong_owners(self):
        letters = "abcdefghijklm"
        for value in any_values():
            if not isinstance(value, dict) or len(value) == 0:
                self.fails(InvalidOwners, lambda: Titles(value), None)
            self.fails(InvalidOwners, lambda: Titles({"b": "ann", "a": value, "c": 5}), "a")
            if value.__class__.__hash__ is not None and not isinstance(value, (tuple, dict, list)):
                self.fails(InvalidOwners, lambda: Titles({"b": "ann", value: "ann", "c": 5}), value)
        self.fails(InvalidOwners, lambda: Titles({"b": "ann", (0, 0): "ann"}), (0, 0))
        self.fails(InvalidOwners, lambda: Titles({}), None)
        self.fails(InvalidOwners, lambda: Titles({name: 5 for name in letters}), None)
        self.assertEqual(len(Titles({name: "ann" for name in letters[:12]})), 12)
        self.fails(InvalidOwners, lambda: Titles({"z": 5, "a": 5}), "z")


class Giving(Case):
    def test_the_least_positions_are_given(self):
        titles = Titles({"a": "ann", "b": "ann"})
        self.assertIsNone(titles.give(5, ("a", "b"), "ann", "bob", Share(1, 4)))
        titles.give(number=3, lot=("a",), giver="ann", taker="cyd", share=HALF, good=True)
        self.same(titles.stretches("a"), [(Share(0), Share(1, 4), "bob"), (Share(1, 4), Share(3, 4), "cyd"),
                                          (Share(3, 4), WHOLE, "ann")])
        self.same(titles.owners("a"), [("ann", Share(1, 4)), ("bob", Share(1, 4)), ("cyd", HALF)])
        self.same(titles.owners("b"), [("ann", Share(3, 4)), ("bob", Share(1, 4))])
        self.same(titles.chain("a", Share(1, 4)), [(3, ("ann",), "cyd", True)])
        self.same(titles.chain("a", Share(6, 25)), [(5, ("ann",), "bob", True)])
        self.same(titles.chain("a", Share(3, 4)), [])
        self.same([titles.share_of("a", "bob"), titles.share_of(parcel="a", person="dan")], [Share(1, 4), Share(0)])

    def test_stretches_behind_one_another_are_taken_in_order(self):
        titles = Titles({"a": "ann"})
        titles.give(1, ("a",), "ann", "bob", Share(1, 4))
        titles.give(2, ("a",), "ann", "cyd", Share(1, 4))
        titles.give(3, ("a",), "ann", "bob", Share(1, 4))
        # Bob has the points from 0 to 1/4 and from 1/2 to 3/4.
        titles.give(4, ("a",), "bob", "dan", Share(3, 8))
        self.same(titles.stretches("a"), [
            (Share(0), Share(1, 4), "dan"), (Share(1, 4), HALF, "cyd"), (HALF, Share(5, 8), "dan"),
            (Share(5, 8), Share(3, 4), "bob"), (Share(3, 4), WHOLE, "ann")])
        self.assertEqual([counts(titles, "a", at) for at in (Share(0), Share(1, 4), HALF, Share(5, 8), Share(3, 4))],
                         [[(1, True), (4, True)], [(2, True)], [(3, True), (4, True)], [(3, True)], []])
        self.assertIs(titles.stands(4, "a"), True)

    def test_longest_stretches_of_one_person(self):
        titles = Titles({"a": "ann"})
        titles.give(1, ("a",), "ann", "bob", THIRD)
        titles.give(2, ("a",), "ann", "bob", THIRD)
        self.same(titles.stretches("a"), [(Share(0), Share(2, 3), "bob"), (Share(2, 3), WHOLE, "ann")])
        titles.give(3, ("a",), "bob", "ann", Share(2, 3))
        self.same(titles.stretches("a"), [(Share(0), WHOLE, "ann")])
        self.same(titles.owners("a"), [("ann", WHOLE)])

    def test_errors_in_their_order(self):
        titles = Titles({"a": "ann", "b": "ann", "c": "bob"})
        titles.give(7, ("a",), "ann", "bob", HALF)
        before = state(titles)
        for value in any_values() + [1000, -1, 0, True]:
            if value != 1 or value is True:
                self.fails(InvalidNumber, lambda: titles.give(value, 5, 5, 5, 5), value)
            self.fails(InvalidLot, lambda: titles.give(1, value, 5, 5, 5), value)
            self.fails(InvalidName, lambda: titles.give(1, ("a",), value, 5, 5), value)
            self.fails(InvalidName, lambda: titles.give(1, ("a",), "ann", value, 5), value)
            if not isinstance(value, Share) or value == Share(0):
                self.fails(InvalidShare, lambda: titles.give(1, ("a",), "ann", "bob", value), value)
        self.fails(DuplicateNumber, lambda: titles.give(7, 5, 5, 5, 5), 7)
        self.fails(InvalidLot, lambda: titles.give(1, ("d", "a"), 5, 5, 5), ("d", "a"))
        self.fails(UnknownParcel, lambda: titles.give(1, ("a", "d", "e"), 5, 5, 5), "d")
        self.fails(InvalidName, lambda: titles.give(1, ("a",), "Ann", "Ann", 5), "Ann")
        self.fails(SamePerson, lambda: titles.give(1, ("a",), "ann", "ann", 5), "ann")
        for share in (Share(0), Share(-1, 2), Share(3, 2), Share(10 ** 12 + 1, 10 ** 12)):
            self.fails(InvalidShare, lambda: titles.give(1, ("c",), "ann", "bob", share), share)
        self.fails(Lacking, lambda: titles.give(1, ("a", "b", "c"), "ann", "bob", Share(2, 3)), "a")
        self.fails(Lacking, lambda: titles.give(1, ("a", "b", "c"), "ann", "bob", HALF), "c")
        self.fails(Lacking, lambda: titles.give(1, ("b",), "dan", "bob", Share(1, 60)), "b")
        self.assertEqual(state(titles), before)
        # The numbers of refused calls are free.
        titles.give(1, ("b",), "ann", "bob", WHOLE)
        self.fails(DuplicateNumber, lambda: titles.give(1, 5, 5, 5, 5), 1)


class Inheriting(Case):
    def test_weights(self):
        titles = Titles({"a": "ann", "b": "bob", "c": "bob"})
        titles.give(1, ("b",), "bob", "ann", HALF)
        self.assertIsNone(titles.inherit(2, "ann", (("dan", 1), ("cyd", 2))))
        self.same(titles.stretches("a"), [(Share(0), THIRD, "dan"), (THIRD, WHOLE, "cyd")])
        self.same(titles.stretches("b"), [(Share(0), Share(1, 6), "dan"), (Share(1, 6), HALF, "cyd"),
                                          (HALF, WHOLE, "bob")])
        self.same(titles.chain("b", Share(1, 6)), [(1, ("bob",), "ann", True), (2, ("ann",), "cyd", True)])
        self.same(titles.stretches("c"), [(Share(0), WHOLE, "bob")])
        self.assertEqual([titles.persons(), titles.stands(2, "b"), titles.stands(2, "c")],
                         [["bob", "cyd", "dan"], True, False])

    def test_points_are_dealt_out_in_ascending_order(self):
        titles = Titles({"a": "ann"})
        titles.give(1, ("a",), "ann", "bob", Share(1, 4))
        titles.give(2, ("a",), "ann", "cyd", Share(1, 4))
        titles.give(3, ("a",), "ann", "bob", Share(1, 4))
        titles.inherit(number=9, person="bob", heirs=(("x", 3), ("y", 1), ("ann", 4)))
        # Half of the line: 3/16 for x, 1/16 for y, 1/4 for ann.
        self.same(titles.stretches("a"), [
            (Share(0), Share(3, 16), "x"), (Share(3, 16), Share(1, 4), "y"), (Share(1, 4), HALF, "cyd"),
            (HALF, WHOLE, "ann")])
        self.assertEqual(counts(titles, "a", HALF), [(3, True), (9, True)])
        self.assertEqual(counts(titles, "a", Share(3, 4)), [])

    def test_one_heir_and_four(self):
        titles = Titles({"a": "ann", "b": "ann"})
        titles.inherit(1, "ann", (("bob", 9),))
        self.same(titles.owners("b"), [("bob", WHOLE)])
        titles.inherit(2, "bob", (("a", 1), ("b", 1), ("c", 9), ("ann", 1)))
        self.assertEqual(shares(titles, "a"), {"a": "1/12", "ann": "1/12", "b": "1/12", "c": "3/4"})

    def test_errors_in_their_order(self):
        titles = Titles({"a": "ann"})
        titles.give(7, ("a",), "ann", "bob", HALF)
        before = state(titles)
        good = (("cyd", 1),)
        for value in any_values():
            if value is True or value != 1:
                self.fails(InvalidNumber, lambda: titles.inherit(value, 5, 5), value)
                self.fails(InvalidHeirs, lambda: titles.inherit(1, "ann", (("cyd", value),)))
            self.fails(InvalidName, lambda: titles.inherit(1, value, 5), value)
            self.fails(InvalidHeirs, lambda: titles.inherit(1, "zzz", value))
            self.fails(InvalidHeirs, lambda: titles.inherit(1, "ann", (("cyd", 1), (value, 1))))
            if value != ("a", 1):
                self.fails(InvalidHeirs, lambda: titles.inherit(1, "ann", (value,)))
        self.fails(DuplicateNumber, lambda: titles.inherit(7, 5, 5), 7)
        for heirs in ((), (("cyd", 0),), (("cyd", 10),), (("cyd", 1), ("cyd", 2)), (("ann", 1),), [("cyd", 1)],
                      (("dan", 1), ("ann", 1)), (["cyd", 1],), (("cyd", 1, 1),), (("cyd",),), ("cyd", 1),
                      (("a", 1), ("b", 1), ("c", 1), ("d", 1), ("e", 1)), (("cyd", True),), {"cyd": 1}):
            self.fails(InvalidHeirs, lambda: titles.inherit(1, "ann", heirs))
        self.fails(UnknownPerson, lambda: titles.inherit(1, "dan", good), "dan")
        self.assertEqual(state(titles), before)
        titles.inherit(1, "ann", good)
        self.fails(UnknownPerson, lambda: titles.inherit(2, "ann", good), "ann")


class Burdens(Case):
    def test_burdens_move_nothing(self):
        titles = Titles({"a": "ann", "b": "bob", "c": "bob"})
        titles.give(1, ("a",), "ann", "bob", HALF)
        self.assertIsNone(titles.burden(2, ("a", "b"), ("ann", "bob", "cyd")))
        titles.burden(number=3, lot=("c",), by=("bob",), good=True)
        self.same(titles.chain("a", Share(0)), [(1, ("ann",), "bob", True), (2, ("ann", "bob", "cyd"), "", True)])
        self.same(titles.chain("a", HALF), [(2, ("ann", "bob", "cyd"), "", True)])
        self.same(titles.chain("c", HALF), [(3, ("bob",), "", True)])
        self.assertEqual([shares(titles, name) for name in "abc"],
                         [{"ann": "1/2", "bob": "1/2"}, {"bob": "1"}, {"bob": "1"}])
        self.assertEqual([titles.stands(2, name) for name in "abc"], [True, True, False])

    def test_errors_in_their_order(self):
        titles = Titles({"a": "ann", "b": "bob"})
        titles.give(7, ("a",), "ann", "bob", HALF)
        before = state(titles)
        for value in any_values():
            if value is True or value != 1:
                self.fails(InvalidNumber, lambda: titles.burden(value, 5, 5), value)
            self.fails(InvalidLot, lambda: titles.burden(1, value, 5), value)
            self.fails(InvalidLot, lambda: titles.burden(1, ("a",), value), value)
        self.fails(DuplicateNumber, lambda: titles.burden(7, 5, 5), 7)
        self.fails(UnknownParcel, lambda: titles.burden(1, ("a", "c", "d"), 5), "c")
        self.fails(InvalidLot, lambda: titles.burden(1, ("a",), ("bob", "ann")), ("bob", "ann"))
        self.fails(NotOwner, lambda: titles.burden(1, ("a", "b"), ("bob",)), "a")
        self.fails(NotOwner, lambda: titles.burden(1, ("a", "b"), ("ann", "cyd")), "a")
        titles.give(8, ("b",), "bob", "cyd", Share(1, 60))
        self.fails(NotOwner, lambda: titles.burden(1, ("a", "b"), ("ann", "bob")), "b")
        titles.give(9, ("b",), "cyd", "bob", Share(1, 60))
        titles.burden(1, ("a", "b"), ("ann", "bob"))
        self.assertNotEqual(state(titles), before)


class Voiding(Case):
    def setUp(self):
        self.titles = Titles({"a": "ann"})
        self.titles.give(1, ("a",), "ann", "bob", WHOLE)
        self.titles.give(2, ("a",), "bob", "cyd", HALF, good=True)
        self.titles.give(3, ("a",), "bob", "dan", HALF)

    def test_good_faith_ahead_of_the_void_entry_stays(self):
        titles = self.titles
        self.assertIsNone(titles.void(4, 1))
        self.assertEqual(shares(titles, "a"), {"ann": "1/2", "cyd": "1/2"})
        self.same(titles.chain("a", Share(3, 4)), [(1, ("ann",), "bob", False), (3, ("bob",), "dan", False)])
        self.same(titles.chain("a", Share(0)), [(1, ("ann",), "bob", False), (2, ("bob",), "cyd", True)])
        self.same([titles.void_by(1), titles.void_by(number=4)], [4, None])

    def test_upheld_and_void_again(self):
        titles = self.titles
        before = [titles.owners("a"), titles.stretches("a"), counts(titles, "a")]
        titles.void(4, 1)
        self.assertIsNone(titles.uphold(5, 1))
        self.assertEqual([titles.owners("a"), titles.stretches("a"), counts(titles, "a")], before)
        self.assertIsNone(titles.void_by(1))
        titles.void(number=6, target=1)
        self.assertEqual([titles.void_by(1), shares(titles, "a")], [6, {"ann": "1/2", "cyd": "1/2"}])
        titles.uphold(number=9, target=1)
        self.assertEqual(titles.owners("a"), before[0])

    def test_items_rest_on_what_was_got_in_good_faith(self):
        titles = self.titles
        titles.give(5, ("a",), "cyd", "eve", Share(1, 4))
        titles.void(6, 1)
        self.assertEqual(shares(titles, "a"), {"ann": "1/2", "cyd": "1/4", "eve": "1/4"})
        titles.void(7, 2)
        self.assertEqual(shares(titles, "a"), {"ann": "1"})
        self.assertEqual(counts(titles, "a"), [(1, False), (2, False), (5, False)])
        titles.uphold(8, 2)
        self.assertEqual(shares(titles, "a"), {"ann": "1/2", "cyd": "1/4", "eve": "1/4"})

    def test_a_void_entry_with_a_lower_number_breaks_good_faith(self):
        titles = Titles({"a": "ann"})
        titles.give(1, ("a",), "ann", "bob", WHOLE)
        titles.void(5, 1)
        titles.uphold(6, 1)
        titles.give(9, ("a",), "bob", "cyd", WHOLE, good=True)
        titles.void(7, 1)
        self.assertEqual([shares(titles, "a"), counts(titles, "a")], [{"ann": "1"}, [(1, False), (9, False)]])
        # Void by a higher number, the same sale stays.
        titles.uphold(8, 1)
        titles.void(10, 1)
        self.assertEqual([shares(titles, "a"), counts(titles, "a")], [{"cyd": "1"}, [(1, False), (9, True)]])

    def test_an_item_ahead_that_is_not_its_giver_s_warns_too(self):
        titles = Titles({"a": "ann"})
        titles.give(1, ("a",), "ann", "bob", WHOLE)
        titles.give(2, ("a",), "bob", "cyd", WHOLE)
        titles.give(20, ("a",), "cyd", "dan", WHOLE, good=True)
        titles.void(30, 2)
        self.assertEqual(counts(titles, "a"), [(1, True), (2, False), (20, True)])
        titles.void(10, 1)
        self.assertEqual(counts(titles, "a"), [(1, False), (2, False), (20, False)])
        self.assertEqual(shares(titles, "a"), {"ann": "1"})
        titles.uphold(11, 2)
        self.assertEqual(counts(titles, "a"), [(1, False), (2, False), (20, False)])

    def test_the_least_void_number_ahead_warns(self):
        for lower in (1, 2):
            titles = Titles({"a": "ann"})
            titles.give(1, ("a",), "ann", "bob", WHOLE)
            titles.give(2, ("a",), "bob", "cyd", WHOLE)
            titles.give(20, ("a",), "cyd", "dan", WHOLE, good=True)
            titles.void(30, 3 - lower)
            self.assertEqual(shares(titles, "a"), {"dan": "1"})
            titles.void(10, lower)
            self.assertEqual(shares(titles, "a"), {"ann": "1"})

    def test_an_item_counts_again_if_its_giver_has_the_point_otherwise(self):
        titles = Titles({"a": "ann"})
        titles.give(1, ("a",), "ann", "bob", WHOLE)
        titles.give(2, ("a",), "bob", "ann", WHOLE)
        titles.give(3, ("a",), "ann", "cyd", WHOLE)
        titles.void(4, 1)
        self.assertEqual([counts(titles, "a"), shares(titles, "a")],
                         [[(1, False), (2, False), (3, True)], {"cyd": "1"}])

    def test_inheritances_are_never_good(self):
        titles = Titles({"a": "ann"})
        titles.give(1, ("a",), "ann", "bob", HALF)
        titles.inherit(2, "bob", (("cyd", 1), ("dan", 1)))
        titles.void(3, 1)
        self.assertEqual(shares(titles, "a"), {"ann": "1"})
        self.assertIs(titles.stands(2, "a"), False)
        titles.uphold(4, 1)
        self.assertEqual(shares(titles, "a"), {"ann": "1/2", "cyd": "1/4", "dan": "1/4"})

    def test_burdens_that_count_at_some_points_only(self):
        titles = Titles({"a": "ann", "b": "ann"})
        titles.give(1, ("a",), "ann", "bob", HALF)
        titles.give(3, ("a",), "ann", "cyd", HALF)
        titles.burden(4, ("a", "b"), ("ann", "bob", "cyd"))
        titles.burden(5, ("a",), ("bob", "cyd"))
        titles.burden(6, ("a",), ("bob", "cyd"), good=True)
        titles.void(9, 1)
        self.assertEqual(counts(titles, "a", Share(0)), [(1, False), (4, True), (5, False), (6, True)])
        self.assertEqual(counts(titles, "a", HALF), [(3, True), (4, True), (5, True), (6, True)])
        self.assertEqual([titles.stands(number, "a") for number in (1, 3, 4, 5, 6)], [False, True, True, False, True])
        self.assertEqual([titles.stands(number, "b") for number in (1, 3, 4, 5, 6)], [False, False, True, False, False])
        titles.void(10, 4)
        self.assertEqual([titles.stands(4, "a"), titles.stands(4, "b"), shares(titles, "b")],
                         [False, False, {"ann": "1"}])

    def test_errors_in_their_order(self):
        titles = self.titles
        titles.burden(8, ("a",), ("cyd", "dan"))
        titles.void(4, 1)
        before = state(titles)
        for call, fits in ((titles.void, NotVoid), (titles.uphold, AlreadyVoid)):
            for value in any_values():
                if value is True or value != 1:
                    self.fails(InvalidNumber, lambda: call(value, value), value)
                    self.fails(UnknownDeed, lambda: call(20, value), value)
            for number in (0, 1000, -3, True):
                self.fails(InvalidNumber, lambda: call(number, 99), number)
            for number in (1, 2, 3, 4, 8):
                self.fails(DuplicateNumber, lambda: call(number, 99), number)
            # A number of an entry that has no item is the number of none: that of void entries too.
            for target in (4, 5, 20, 999, 1000, 0, True, (1,), "1"):
                self.fails(UnknownDeed, lambda: call(20, target), target)
        self.fails(AlreadyVoid, lambda: titles.void(20, 1), 1)
        self.fails(NotVoid, lambda: titles.uphold(20, 2), 2)
        self.assertEqual(state(titles), before)
        titles.void(20, 8)
        self.assertIs(titles.stands(8, "a"), False)
        titles.uphold(21, 8)
        self.fails(DuplicateNumber, lambda: titles.give(21, 5, 5, 5, 5), 21)
        self.fails(DuplicateNumber, lambda: titles.inherit(20, 5, 5), 20)
        self.fails(DuplicateNumber, lambda: titles.burden(4, 5, 5), 4)


class Dividing(Case):
    def test_the_new_parcel_has_the_same_chains(self):
        titles = Titles({"a": "ann", "b": "bob"})
        titles.give(1, ("a",), "ann", "bob", HALF)
        self.assertIsNone(titles.divide("a", "c"))
        self.assertEqual([titles.parcels(), len(titles), titles.first_owner("c")], [["a", "b", "c"], 3, "ann"])
        self.same(titles.stretches("c"), titles.stretches("a"))
        self.same(titles.chain("c", Share(1, 4)), [(1, ("ann",), "bob", True)])
        self.assertIs(titles.alike("a", "c"), True)
        titles.void(2, 1)
        self.assertEqual([shares(titles, "a"), shares(titles, "c")], [{"ann": "1"}, {"ann": "1"}])
        titles.give(3, ("a",), "ann", "dan", THIRD)
        self.assertEqual([shares(titles, "c"), titles.alike("a", "c")], [{"ann": "1"}, False])
        self.fails(UnlikeLines, lambda: titles.unite("a", "c"), "a", "c")

    def test_uniting(self):
        titles = Titles({"a": "ann", "b": "ann", "c": "bob"})
        self.assertIs(titles.alike("a", "b"), True)
        self.assertIsNone(titles.unite("b", "a"))
        self.assertEqual([titles.parcels(), titles.persons()], [["b", "c"], ["ann", "bob"]])
        self.fails(UnknownParcel, lambda: titles.owners("a"), "a")
        titles.divide(parcel="b", new="a")
        titles.give(1, ("a", "b"), "ann", "bob", HALF)
        titles.burden(2, ("a", "b", "c"), ("ann", "bob"))
        titles.unite(first="a", second="b")
        self.assertEqual([shares(titles, "a"), titles.stands(2, "a")], [{"ann": "1/2", "bob": "1/2"}, True])
        titles.divide("a", "b")
        self.assertIs(titles.alike("b", "a"), True)

    def test_lines_with_equal_owners_and_other_chains_are_not_alike(self):
        titles = Titles({"a": "ann", "b": "ann", "c": "bob", "d": "ann", "e": "ann"})
        titles.give(1, ("a",), "ann", "bob", WHOLE)
        titles.give(2, ("b",), "ann", "bob", WHOLE)
        titles.give(3, ("d", "e"), "ann", "bob", HALF)
        titles.give(4, ("d",), "ann", "bob", HALF)
        titles.give(5, ("e",), "ann", "bob", HALF)
        for first, second in (("a", "b"), ("a", "c"), ("c", "a"), ("d", "e"), ("a", "d")):
            self.assertEqual(titles.owners(first), titles.owners(second))
            self.assertIs(titles.alike(first, second), False)
            self.fails(UnlikeLines, lambda: titles.unite(first, second), first, second)
        self.assertIs(titles.alike(first="a", second="a"), True)

    def test_void_items_stay_in_the_chains(self):
        titles = Titles({"a": "ann", "b": "ann"})
        titles.give(1, ("a",), "ann", "bob", HALF)
        titles.void(2, 1)
        self.assertEqual(titles.owners("a"), titles.owners("b"))
        self.assertIs(titles.alike("a", "b"), False)

    def test_errors_in_their_order(self):
        titles = Titles({"a": "ann", "b": "bob"})
        before = state(titles)
        for value in any_values() + ["z"]:
            self.fails(UnknownParcel, lambda: titles.divide(value, value), value)
            self.fails(UnknownParcel, lambda: titles.unite(value, "zz"), value)
            self.fails(UnknownParcel, lambda: titles.unite("a", value), value)
            if value != "z":
                self.fails(InvalidName, lambda: titles.divide("a", value), value)
        self.fails(DuplicateName, lambda: titles.divide("a", "a"), "a")
        self.fails(DuplicateName, lambda: titles.divide("a", "b"), "b")
        self.fails(DuplicateName, lambda: titles.unite("a", "a"), "a")
        self.fails(UnlikeLines, lambda: titles.unite("a", "b"), "a", "b")
        self.assertEqual(state(titles), before)

    def test_more_parcels_than_titles_begin_with(self):
        titles = Titles({name: "ann" for name in "abcdefghijkl"})
        titles.divide("a", "m")
        titles.divide("a", "n")
        self.assertEqual([len(titles), len(titles.twin()), repr(titles.twin())], [14, 14, "Titles(14 parcels)"])
        self.assertEqual(state(titles.twin()), state(titles))


class Asking(Case):
    def setUp(self):
        self.titles = Titles({"a": "ann", "b": "bob"})
        self.titles.give(3, ("a",), "ann", "bob", HALF)

    def test_unknown_parcels(self):
        titles = self.titles
        for value in any_values() + ["c"]:
            for call in (titles.first_owner, titles.owners, titles.stretches):
                self.fails(UnknownParcel, lambda: call(value), value)
                self.fails(UnknownParcel, lambda: call(parcel=value), value)
            self.fails(UnknownParcel, lambda: titles.share_of(value, "ann"), value)
            self.fails(UnknownParcel, lambda: titles.chain(value, value), value)
            self.fails(UnknownParcel, lambda: titles.stands(3, value), value)
            self.fails(UnknownParcel, lambda: titles.stands(value, parcel="c"), "c")
            self.fails(UnknownParcel, lambda: titles.alike(value, "zz"), value)
            self.fails(UnknownParcel, lambda: titles.alike("a", value), value)

    def test_wrong_points(self):
        for value in any_values() + [Share(-1, 2), WHOLE, Share(3, 2)]:
            if not isinstance(value, Share) or value not in (Share(0), HALF):
                self.fails(InvalidShare, lambda: self.titles.chain("a", value), value)
        self.same(self.titles.chain(at=Share(0), parcel="a"), [(3, ("ann",), "bob", True)])
        self.same(self.titles.chain("a", Share(10 ** 12 - 1, 10 ** 12)), [])

    def test_numbers_that_stand(self):
        self.assertIs(self.titles.stands(number=3, parcel="a"), True)
        for value in any_values() + [1, 999, 1000, "3", (3,), [3]]:
            self.assertIs(self.titles.stands(value, "a"), False)
        self.assertIs(self.titles.stands(3, "b"), False)
        self.titles.burden(1, ("b",), ("bob",))
        self.assertEqual([self.titles.stands(1, "b"), self.titles.stands(True, "b")], [True, False])

    def test_void_by_of_any_value(self):
        self.titles.void(1, 3)
        self.assertEqual(self.titles.void_by(3), 1)
        titles = Titles({"a": "ann"})
        titles.give(1, ("a",), "ann", "bob", HALF)
        titles.void(2, 1)
        for value in any_values():
            if value is True or value != 1:
                self.assertIsNone(titles.void_by(value))

    def test_what_is_returned_is_new(self):
        titles = self.titles
        before = state(titles)
        for call in (titles.parcels, titles.persons, lambda: titles.owners("a"), lambda: titles.stretches("a"),
                     lambda: titles.chain("a", Share(0))):
            call().clear()
        self.assertEqual(state(titles), before)

    def test_twins_are_led_apart(self):
        titles = self.titles
        titles.burden(4, ("a",), ("ann", "bob"))
        titles.void(5, 4)
        twin = titles.twin()
        before = state(titles)
        self.assertEqual(state(twin), before)
        twin.give(6, ("a", ), "ann", "dan", HALF)
        twin.uphold(7, 4)
        twin.divide("a", "c")
        twin.inherit(8, "bob", (("eve", 1),))
        twin.unite("a", "c")
        self.assertEqual(state(titles), before)
        titles.give(6, ("b",), "bob", "eve", HALF)
        titles.void(8, 3)
        self.assertEqual([titles.void_by(4), twin.void_by(4), titles.void_by(3), twin.void_by(3)], [5, None, 8, None])
        self.assertEqual(shares(twin, "a"), {"dan": "1/2", "eve": "1/2"})
        for one in (titles, twin):
            for number in (3, 4, 5, 6, 8):
                self.fails(DuplicateNumber, lambda: one.give(number, 5, 5, 5, 5), number)
        self.fails(DuplicateNumber, lambda: twin.void(7, 3), 7)
        titles.void(7, 6)


if __name__ == "__main__":
    unittest.main()
