"""Rolls and their deeds: [41], [42], [43]."""

import unittest

from deedranks.claims import Claim
from deedranks.errors import AlreadyVoid, Apart, Behind, DuplicateName, DuplicateNumber, Granted, InsideLot, InvalidAmount
from deedranks.errors import InvalidCell, InvalidDay, InvalidDeed, InvalidNumber, InvalidOwners, Lacking, NotBeside
from deedranks.errors import NotOwner, NotReserved, NotVoid, OutsideLot, Reserved, TooMany, Unequal, UnknownClaim
from deedranks.errors import UnknownDeed, UnknownGrant, UnknownParcel, UnknownPerson, Unlike, UnlikeLines
from deedranks.plats import Plat
from deedranks.ranks import RankList
from deedranks.rolls import Roll
from deedranks.shares import Share
from deedranks.titles import Titles
from deedranks.ways import Ways
from plain import records
from support import Case, any_values, good_deeds

PLAT = Plat([["a", "a", "b"], ["a", "a", "b"], ["c", "c", "c"]], road=[(0, 0)])
ANN = {"a": "ann", "b": "ann", "c": "bob"}
LETTERS = "abcdefghijklmnopqrstuvwxyz"


def roll_of(*deeds, owners=None, plat=PLAT):
    """A roll behind these deeds, with the numbers from 1 on."""
    roll = Roll(plat, owners or ANN)
    for at, deed in enumerate(deeds):
        roll.do(at + 1, deed)
    return roll


def charge(name, lot, by=("ann",), amount=5, knew=False, person="eve"):
    return ("charge", name, person, amount, tuple(lot), tuple(by), knew)


def reserve(name, lot, until, by=("ann",), amount=5):
    return ("reserve", name, amount, tuple(lot), until, tuple(by), False)


def owners(roll, parcel):
    return [(person, str(share)) for person, share in roll.titles().owners(parcel)]


class Rolls(Case):
    def refused(self, roll, error, number, deed, *told, **more):
        """The deed raises this error and changes nothing, and its number may be used again."""
        before = records(roll)
        self.fails(error, lambda: roll.do(number, deed, **more), *told)
        self.assertEqual(records(roll), before)

    def places(self, roll, *pairs):
        self.same(roll.places(), list(pairs))
        self.same(roll.on_paper().names(), [name for _, name in pairs])


class Beginnings(Rolls):
    def test_at_first(self):
        roll = Roll(PLAT, ANN)
        self.assertEqual(roll.plat, PLAT)
        self.same([roll.present_day, roll.grants(), roll.places(), repr(roll)], [0, [], [], "Roll(day 0)"])
        self.same([roll.on_paper(), roll.ranks()], [RankList(), RankList()])
        self.same([owners(roll, parcel) for parcel in "abc"], [[("ann", "1")], [("ann", "1")], [("bob", "1")]])
        self.same(roll.titles().parcels(), ["a", "b", "c"])
        self.same(roll.ways().steps(), [("a", "b"), ("b", "a")])
        self.assertIsInstance(roll.ways(), Ways)
        self.assertIs(roll.ways().plat, roll.plat)
        self.assertIsInstance(roll.titles(), Titles)
        self.assertEqual(records(Roll(owners=ANN, plat=PLAT)), records(roll))
        self.assertIsInstance(vars(Roll)["present_day"], property)

    def test_owners_that_are_wrong(self):
        for value in any_values():
            if not isinstance(value, dict):
                self.fails(InvalidOwners, lambda: Roll(PLAT, value), None)
            self.fails(InvalidOwners, lambda: Roll(PLAT, {"a": "ann", "b": value, "c": "bob"}), "b")
            if isinstance(value, (str, int, type(None))):
                self.fails(InvalidOwners, lambda: Roll(PLAT, {value: "ann", **ANN}), value)
        self.fails(InvalidOwners, lambda: Roll(PLAT, {}), "a")
        self.fails(InvalidOwners, lambda: Roll(PLAT, {"a": "ann"}), "b")
        self.fails(InvalidOwners, lambda: Roll(PLAT, {"c": "ann", "b": "ann"}), "a")
        self.fails(InvalidOwners, lambda: Roll(PLAT, {"c": "ann", "d": "ann", "a": 5}), "d")
        self.fails(InvalidOwners, lambda: Roll(PLAT, {"c": "ann", "a": 5, "d": "ann"}), "a")
        self.fails(InvalidOwners, lambda: Roll(PLAT, {**ANN, ("a", 1): "ann"}), ("a", 1))
        self.fails(InvalidOwners, lambda: Roll(PLAT, {"c": "Ann"}), "c")
        self.fails(InvalidOwners, lambda: Roll(Plat.single("q", 1, 1), {"a": "ann"}), "a")

    def test_owners_are_copied(self):
        given = dict(ANN)
        roll = Roll(PLAT, given)
        given["a"] = "dan"
        del given["b"]
        self.same(owners(roll, "a"), [("ann", "1")])
        roll.do(1, ("gift", ("a",), "ann", "bob", Share(1)))
        self.assertEqual([given, ANN], [{"a": "dan", "c": "bob"}, {"a": "ann", "b": "ann", "c": "bob"}])

    def test_days(self):
        roll = Roll(PLAT, ANN)
        for value in any_values() + [10000]:
            if isinstance(value, bool) or not isinstance(value, int) or not 0 <= value <= 9999:
                self.fails(InvalidDay, lambda: roll.turn_to(value), value)
                if value is not None:
                    self.refused(roll, InvalidDay, 1, ("waive", "a", "b"), value, day=value)
                    self.refused(roll, InvalidDay, 1, None, value, day=value)
        roll.turn_to(0)
        roll.turn_to(day=30)
        self.same([roll.present_day, repr(roll)], [30, "Roll(day 30)"])
        roll.turn_to(30)
        for day in (29, 0):
            self.fails(InvalidDay, lambda: roll.turn_to(day), day)
            self.refused(roll, InvalidDay, 1, ("waive", "a", "b"), day, day=day)
        roll.turn_to(9999)
        self.same(roll.present_day, 9999)

    def test_errors_of_do_in_their_order(self):
        roll = roll_of(("gift", ("a",), "ann", "bob", Share(1, 2)))
        good = ("gift", ("a",), "ann", "bob", Share(1, 4))
        roll.turn_to(5)
        for value in any_values():
            if isinstance(value, bool) or not isinstance(value, int) or not 1 <= value <= 999:
                self.refused(roll, InvalidNumber, value, good, value)
                self.refused(roll, InvalidNumber, value, None, value, day=-1)
            self.refused(roll, InvalidDeed, 2, value, 0)
            self.refused(roll, InvalidDeed, 2, value, 0, day=7)
            self.refused(roll, DuplicateNumber, 1, value, 1, day=value)
        self.refused(roll, InvalidNumber, 1000, good, 1000)
        self.refused(roll, DuplicateNumber, 1, good, 1)
        self.refused(roll, DuplicateNumber, 1, None, 1, day=4)
        self.refused(roll, InvalidDay, 2, None, 4, day=4)
        self.refused(roll, InvalidDay, 2, good, 10000, day=10000)
        for deed in good_deeds():
            self.refused(roll, InvalidDeed, 2, list(deed), 0, day=6)
            if deed[0] in ("strike", "instead"):
                self.refused(roll, InvalidDeed, 2, deed, 0, day=6)
        self.refused(roll, InvalidDeed, 2, ("cancel", "one"), 0)
        roll.do(2, good)
        roll.do(number=999, deed=("gift", ("a",), "ann", "bob", Share(1, 8)), day=6)
        self.same([roll.present_day, owners(roll, "a")], [6, [("ann", "1/8"), ("bob", "7/8")]])
        self.refused(roll, DuplicateNumber, 999, good, 999)
        self.refused(roll, DuplicateNumber, 2, good, 2)

    def test_a_refused_deed_changes_nothing(self):
        roll = roll_of(reserve("one", "a", 3), charge("two", "ab"))
        self.refused(roll, Lacking, 3, ("gift", ("a", "c"), "ann", "dan", Share(1)), "c", day=8)
        self.refused(roll, UnlikeLines, 3, ("unite", "a", "b"), "a", "b", day=8)
        self.refused(roll, NotOwner, 3, charge("three", "abc"), "c", day=8)
        self.same([roll.present_day, roll.on_paper().names()], [0, ["one", "two"]])
        self.same(roll.titles().chain("a", Share(0)), [(1, ("ann",), "", True), (2, ("ann",), "", True)])
        # The number may be used again, also that of a deed that was refused by the titles.
        roll.do(3, ("gift", ("a",), "ann", "dan", Share(1)), day=8)
        self.same([roll.present_day, roll.on_paper().names()], [8, ["two"]])

    def test_numbers_in_any_order(self):
        roll = Roll(PLAT, ANN)
        for number in (900, 3, 999, 1, 50):
            roll.do(number, ("gift", ("a",), "ann", "bob", Share(1, 8)))
        self.same(owners(roll, "a"), [("ann", "3/8"), ("bob", "5/8")])
        self.same([item[0] for item in roll.titles().chain("a", Share(0))], [900])


class Titled(Rolls):
    def test_sale_and_gift(self):
        roll = roll_of(("sale", ("a", "b"), "ann", "bob", Share(1, 2), False),
                       ("gift", ("a",), "ann", "cyd", Share(1, 4)), ("sale", ("b",), "bob", "cyd", Share(1, 4), True))
        self.same(owners(roll, "a"), [("ann", "1/4"), ("bob", "1/2"), ("cyd", "1/4")])
        self.same(owners(roll, "b"), [("ann", "1/2"), ("bob", "1/4"), ("cyd", "1/4")])
        self.same(roll.titles().chain("b", Share(0)), [(1, ("ann",), "bob", True), (3, ("bob",), "cyd", True)])

    def test_sales_are_good_unless_known(self):
        for knew, last in ((False, "cyd"), (True, "ann")):
            roll = roll_of(("gift", ("a",), "ann", "bob", Share(1)), ("sale", ("a",), "bob", "cyd", Share(1), knew),
                           ("void", 1))
            self.same(owners(roll, "a"), [(last, "1")])
        roll = roll_of(("gift", ("a",), "ann", "bob", Share(1)), ("gift", ("a",), "bob", "cyd", Share(1)), ("void", 1))
        self.same(owners(roll, "a"), [("ann", "1")])
        roll = roll_of(("gift", ("a",), "ann", "bob", Share(1)), ("heirs", "bob", (("cyd", 1),)), ("void", 1))
        self.same(owners(roll, "a"), [("ann", "1")])

    def test_errors_of_sale_and_gift(self):
        roll = roll_of(("gift", ("b",), "ann", "cyd", Share(1, 2)))
        for knew in ((), (True,), (False,)):
            word = "sale" if knew else "gift"
            self.refused(roll, UnknownParcel, 2, (word, ("a", "d", "e"), "ann", "bob", Share(1)) + knew, "d")
            self.refused(roll, UnknownParcel, 2, (word, ("b", "d"), "ann", "bob", Share(1)) + knew, "d")
            self.refused(roll, Lacking, 2, (word, ("a", "b", "c"), "ann", "bob", Share(2, 3)) + knew, "b")
            self.refused(roll, Lacking, 2, (word, ("a",), "zz", "bob", Share(1, 60)) + knew, "a")
            roll.twin().do(2, (word, ("a", "b"), "ann", "bob", Share(1, 2)) + knew)

    def test_heirs(self):
        roll = roll_of(("gift", ("c",), "bob", "ann", Share(1, 2)), ("heirs", "ann", (("cyd", 1), ("dan", 3))))
        self.same(owners(roll, "a"), [("cyd", "1/4"), ("dan", "3/4")])
        self.same(owners(roll, "c"), [("bob", "1/2"), ("cyd", "1/8"), ("dan", "3/8")])
        self.refused(roll, UnknownPerson, 3, ("heirs", "ann", (("bob", 1),)), "ann")
        self.refused(roll, UnknownPerson, 3, ("heirs", "zz", (("bob", 1),)), "zz")

    def test_void_and_uphold(self):
        roll = roll_of(("gift", ("a",), "ann", "bob", Share(1)), ("void", 1))
        self.same([owners(roll, "a"), roll.titles().void_by(1)], [[("ann", "1")], 2])
        self.refused(roll, AlreadyVoid, 3, ("void", 1), 1)
        roll.do(4, ("uphold", 1))
        self.same([owners(roll, "a"), roll.titles().void_by(1)], [[("bob", "1")], None])
        self.refused(roll, NotVoid, 3, ("uphold", 1), 1)
        for word in ("void", "uphold"):
            # The number of a void is that of no item, nor is one that was never used.
            for number in (2, 4, 3, 999):
                self.refused(roll, UnknownDeed, 3, (word, number), number)
        roll.do(3, ("void", 1))
        self.same([owners(roll, "a"), roll.titles().void_by(1)], [[("ann", "1")], 3])

    def test_what_has_no_item_cannot_be_void(self):
        roll = roll_of(("divide", "a", ((0, 0), (1, 0)), "d"), charge("one", "a"), ("repay", "one", 1),
                       ("grant", "b", "a", ("ann",), False), ("waive", "b", "a"),
                       ("part", "one", 1, "two"))
        for number, known in ((1, False), (2, True), (3, False), (4, True), (5, False), (6, False)):
            if known:
                roll.twin().do(9, ("void", number))
            else:
                self.refused(roll, UnknownDeed, 9, ("void", number), number)

    def test_void_and_uphold_at_once(self):
        roll = roll_of(("gift", ("a",), "ann", "bob", Share(1, 2)), ("sale", ("a",), "bob", "cyd", Share(1, 4), False),
                       charge("one", "ab", ("ann", "bob", "cyd")), ("grant", "b", "a", ("ann", "bob", "cyd"), False))
        before = records(roll)
        for target in (1, 2, 3, 4):
            roll.do(10 * target, ("void", target))
            self.assertNotEqual(records(roll), before)
            roll.do(10 * target + 1, ("uphold", target))
            self.assertEqual(records(roll), before)


class Mapped(Rolls):
    def test_divide(self):
        roll = roll_of(("gift", ("a",), "ann", "bob", Share(1, 3)), charge("one", "ab", ("ann", "bob")),
                       charge("two", "b"), ("divide", "a", ((0, 1), (1, 1)), "d"))
        self.same(roll.plat.rows(), [["a", "d", "b"], ["a", "d", "b"], ["c", "c", "c"]])
        self.same(roll.plat.road(), [(0, 0)])
        self.same(owners(roll, "d"), owners(roll, "a"))
        self.assertTrue(roll.titles().alike("a", "d"))
        self.same([claim.lot for claim in roll.on_paper()], [("a", "b", "d"), ("b",)])
        self.same([roll.came_by("one", parcel) for parcel in "abd"], [2, 2, 2])
        self.same([claim.lot for claim in roll.ranks()], [("a", "b", "d"), ("b",)])
        self.same([PLAT.rows()[0], PLAT.names()], [["a", "a", "b"], ["a", "b", "c"]])

    def test_divide_keeps_the_number_by_which_a_parcel_came(self):
        roll = roll_of(charge("one", "b"), ("extend", "one", "a", ("ann",), False),
                       ("divide", "a", ((0, 0),), "d"), ("divide", "b", ((0, 2),), "e"))
        self.same([(parcel, roll.came_by("one", parcel)) for parcel in "abde"],
                  [("a", 2), ("b", 1), ("d", 2), ("e", 1)])

    def test_divide_with_grants(self):
        roll = roll_of(("grant", "a", "b", ("ann",), False), ("grant", "b", "a", ("ann",), False),
                       ("grant", "a", "c", ("bob",), False), ("grant", "c", "b", ("ann",), False))
        self.same(roll.grants(), [("a", "b"), ("a", "c"), ("b", "a"), ("c", "b")])
        roll.do(5, ("divide", "a", ((0, 1), (1, 1)), "d"))
        # a is no neighbour of b any more, both parts are neighbours of c.
        self.same(roll.grants(), [("a", "c"), ("b", "d"), ("c", "b"), ("d", "b"), ("d", "c")])
        roll.do(6, ("void", 3))
        self.same(roll.grants(), [("b", "d"), ("c", "b"), ("d", "b")])
        roll.do(7, ("void", 2))
        self.same(roll.grants(), [("c", "b"), ("d", "b")])
        for step, number in ((("a", "c"), 3), (("d", "c"), 3), (("b", "d"), 2)):
            roll.do(10 * number + (step[0] == "a"), ("waive", *step))
        self.refused(roll, UnknownGrant, 50, ("waive", "b", "a"), "b", "a")
        self.refused(roll, UnknownGrant, 50, ("waive", "a", "b"), "a", "b")

    def test_divided_parts_and_later_parts(self):
        roll = roll_of(("grant", "c", "a", ("ann",), False), ("divide", "c", ((2, 0),), "d"),
                       ("divide", "c", ((2, 1),), "e"), ("divide", "a", ((0, 0), (0, 1)), "f"))
        self.same(roll.grants(), [("d", "a"), ("e", "a")])

    def test_errors_of_divide(self):
        roll = roll_of(charge("one", "ab"))
        corners = ((0, 0), (1, 1))
        self.refused(roll, UnknownParcel, 2, ("divide", "z", ((5, 5),), "a"), "z")
        self.refused(roll, DuplicateName, 2, ("divide", "a", ((5, 5),), "b"), "b")
        self.refused(roll, InvalidCell, 2, ("divide", "a", ((0, 0), (0, 2), (5, 5)), "d"), 1)
        self.refused(roll, InvalidCell, 2, ("divide", "a", ((0, 0), (5, 5)), "d"), 1)
        self.refused(roll, Apart, 2, ("divide", "a", corners, "d"), "d")
        self.refused(roll, Apart, 2, ("divide", "a", ((0, 0), (0, 1), (1, 0), (1, 1)), "d"), "a")
        self.refused(roll, Apart, 2, ("divide", "c", ((2, 1),), "d"), "c")
        wide = Roll(Plat([list(LETTERS[:11]) + ["l"], ["a"] * 11 + ["l"]]), {name: "ann" for name in LETTERS[:12]})
        self.refused(wide, TooMany, 2, ("divide", "a", ((0, 0), (1, 3)), "z"), 12)
        self.refused(wide, InvalidCell, 2, ("divide", "a", ((0, 1),), "z"), 0)
        self.refused(wide, DuplicateName, 2, ("divide", "a", ((0, 0),), "l"), "l")

    def test_unite(self):
        roll = roll_of(charge("one", "abc", ("ann", "bob")), ("release", "one", "c"), ("unite", "b", "a"))
        self.same(roll.plat.rows(), [["b", "b", "b"], ["b", "b", "b"], ["c", "c", "c"]])
        self.same([roll.titles().parcels(), owners(roll, "b")], [["b", "c"], [("ann", "1")]])
        self.same([roll.on_paper()[1].lot, roll.came_by("one", "b")], [("b",), 1])
        self.fails(OutsideLot, lambda: roll.came_by("one", "a"), "a")
        self.same(roll.ranks()[1].lot, ("b",))

    def test_unite_with_grants(self):
        owned = {"a": "ann", "b": "ann", "c": "ann"}
        by = ("ann",)
        # Of both grants for the step (a, c) the one with the lower number stays.
        roll = roll_of(("grant", "b", "c", by, False), ("grant", "a", "c", by, False), ("unite", "a", "b"), owners=owned)
        self.same(roll.grants(), [("a", "c")])
        roll.do(4, ("void", 2))
        self.same(roll.grants(), [("a", "c")])
        roll.do(5, ("void", 1))
        self.same(roll.grants(), [])
        # It also stays if it does not stand, and the other one would.
        roll = roll_of(("grant", "b", "c", by, False), ("grant", "a", "c", by, False), ("void", 1), ("unite", "a", "b"),
                       owners=owned)
        self.same(roll.grants(), [])
        roll.do(5, ("uphold", 1))
        self.same(roll.grants(), [("a", "c")])

    def test_unite_and_the_grants_of_the_second_one(self):
        owned = {"a": "ann", "b": "ann", "c": "bob"}
        roll = roll_of(("grant", "a", "c", ("bob",), False), ("grant", "c", "b", ("ann",), False), owners=owned)
        self.refused(roll, UnlikeLines, 3, ("unite", "a", "b"), "a", "b")
        roll = roll_of(("grant", "a", "c", ("bob",), False), ("grant", "b", "c", ("bob",), False), ("waive", "a", "c"),
                       ("unite", "a", "b"), owners=owned)
        self.same(roll.grants(), [("a", "c")])
        # The number is that of the grant of the second one.
        roll.do(5, ("void", 1))
        self.same(roll.grants(), [("a", "c")])
        roll.do(6, ("void", 2))
        self.same(roll.grants(), [])

    def test_divided_and_united_again(self):
        roll = roll_of(("grant", "a", "b", ("ann",), False), ("grant", "c", "a", ("ann",), False),
                       charge("one", "ab", ("ann",)), reserve("two", "a", 9))
        before = records(roll)
        roll.do(5, ("divide", "a", ((0, 1), (1, 1)), "d"))
        self.same(roll.grants(), [("c", "a"), ("c", "d"), ("d", "b")])
        other = roll.twin()
        roll.do(6, ("unite", "a", "d"))
        self.assertEqual(records(roll), before)
        other.do(6, ("unite", "d", "a"))
        self.same([other.grants(), other.on_paper()[1].lot, other.came_by("one", "d")],
                  [[("c", "d"), ("d", "b")], ("b", "d"), 3])

    def test_errors_of_unite(self):
        roll = roll_of(charge("one", "ab"), charge("two", "ab"), ("release", "one", "a"), ("release", "two", "b"))
        self.refused(roll, UnknownParcel, 5, ("unite", "y", "z"), "y")
        self.refused(roll, UnknownParcel, 5, ("unite", "a", "z"), "z")
        self.refused(roll, UnknownParcel, 5, ("unite", "z", "a"), "z")
        self.refused(roll, Unlike, 5, ("unite", "a", "b"), "one")
        self.refused(roll, Unlike, 5, ("unite", "b", "a"), "one")
        self.refused(roll, UnlikeLines, 5, ("unite", "b", "c"), "b", "c")
        roll.do(5, ("release", "one", "b"))
        self.refused(roll, Unlike, 6, ("unite", "a", "b"), "two")
        apart = Roll(Plat([["a", "b", "c"]]), {"a": "ann", "b": "ann", "c": "ann"})
        self.refused(apart, NotBeside, 1, ("unite", "a", "c"), "a", "c")
        apart.do(1, ("gift", ("a",), "ann", "bob", Share(1)))
        self.refused(apart, NotBeside, 2, ("unite", "a", "c"), "a", "c")
        self.refused(apart, UnlikeLines, 2, ("unite", "a", "b"), "a", "b")
        apart.do(2, charge("one", "bc"))
        self.refused(apart, UnlikeLines, 3, ("unite", "a", "b"), "a", "b")

    def test_grant(self):
        roll = roll_of(("grant", "b", "c", ("ann", "bob"), False))
        self.same([roll.grants(), roll.titles().chain("c", Share(0))], [[("b", "c")], [(1, ("ann", "bob"), "", True)]])
        self.same(roll.titles().chain("b", Share(0)), [])
        self.same(roll.ways().steps(), [("a", "b"), ("b", "a"), ("b", "c")])
        self.same(roll.ways().way("c"), None)
        roll.do(2, ("grant", "c", "a", ("ann",), True))
        self.same(roll.ways().way("c"), ["c", "a"])

    def test_grants_that_do_not_stand(self):
        for knew, grants in ((False, [("a", "c")]), (True, [])):
            roll = roll_of(("gift", ("c",), "bob", "dan", Share(1)), ("grant", "a", "c", ("dan",), knew))
            self.same(roll.grants(), [("a", "c")])
            roll.do(3, ("void", 1))
            self.same(roll.grants(), grants)
            roll.do(4, ("uphold", 1))
            self.same(roll.grants(), [("a", "c")])
        # It stands only if it counts at each point.
        roll = roll_of(("gift", ("c",), "bob", "dan", Share(1, 9)), ("grant", "a", "c", ("bob", "dan"), True), ("void", 1))
        self.same(roll.grants(), [("a", "c")])
        roll = roll_of(("gift", ("c",), "bob", "dan", Share(1, 9)), ("gift", ("c",), "bob", "dan", Share(8, 9)),
                       ("grant", "a", "c", ("dan",), True), ("void", 1))
        self.same([roll.grants(), owners(roll, "c")], [[], [("bob", "1/9"), ("dan", "8/9")]])

    def test_a_grant_that_does_not_stand_is_replaced(self):
        roll = roll_of(("grant", "a", "c", ("bob",), False), ("void", 1), ("grant", "a", "c", ("bob",), False))
        self.same(roll.grants(), [("a", "c")])
        roll.do(4, ("void", 3))
        self.same(roll.grants(), [])
        roll.do(5, ("uphold", 1))
        self.same(roll.grants(), [])
        roll.do(6, ("uphold", 3))
        self.same(roll.grants(), [("a", "c")])
        roll.do(7, ("waive", "a", "c"))
        self.refused(roll, UnknownGrant, 8, ("waive", "a", "c"), "a", "c")

    def test_errors_of_grant(self):
        roll = roll_of(("grant", "a", "c", ("bob",), False))
        self.refused(roll, UnknownParcel, 2, ("grant", "y", "z", ("bob",), False), "y")
        self.refused(roll, UnknownParcel, 2, ("grant", "a", "z", ("bob",), False), "z")
        self.refused(roll, UnknownParcel, 2, ("grant", "z", "a", ("bob",), False), "z")
        self.refused(roll, Granted, 2, ("grant", "a", "c", ("zz",), False), "a", "c")
        self.refused(roll, NotOwner, 2, ("grant", "b", "c", ("ann",), False), "c")
        self.refused(roll, NotOwner, 2, ("grant", "c", "a", ("bob",), False), "a")
        roll.do(2, ("void", 1))
        self.refused(roll, NotOwner, 3, ("grant", "a", "c", ("ann",), False), "c")
        apart = Roll(Plat([["a", "b", "c"]]), {"a": "ann", "b": "ann", "c": "ann"})
        self.refused(apart, NotBeside, 1, ("grant", "a", "c", ("zz",), False), "a", "c")
        apart.do(1, ("gift", ("b",), "ann", "bob", Share(1, 60)))
        self.refused(apart, NotOwner, 2, ("grant", "a", "b", ("ann", "cyd"), False), "b")
        apart.do(2, ("grant", "a", "b", ("ann", "bob"), False))

    def test_waive(self):
        roll = roll_of(("grant", "a", "c", ("bob",), False), ("waive", "a", "c"))
        self.same([roll.grants(), roll.titles().stands(1, "c")], [[], True])
        for step in (("a", "c"), ("c", "a"), ("y", "z")):
            self.refused(roll, UnknownGrant, 3, ("waive", *step), *step)
        # Whether it stands or not.
        roll = roll_of(("grant", "a", "c", ("bob",), False), ("void", 1), ("waive", "a", "c"), ("uphold", 1))
        self.same(roll.grants(), [])


class OnPaper(Rolls):
    def test_charge(self):
        roll = roll_of(charge("one", "ab", ("ann", "bob"), amount=7, person="cyd"))
        self.same(roll.on_paper(), RankList(Claim("one", "cyd", 7, ("a", "b"))))
        self.same(roll.ranks(), roll.on_paper())
        self.same([roll.came_by("one", "a"), roll.came_by(parcel="b", name="one"), roll.last_day("one")], [1, 1, None])
        self.same([roll.titles().chain(parcel, Share(0)) for parcel in "abc"],
                  [[(1, ("ann", "bob"), "", True)], [(1, ("ann", "bob"), "", True)], []])
        self.places(roll, (1, "one"))

    def test_the_places_of_charges(self):
        roll = Roll(PLAT, ANN)
        for number, name in ((5, "five"), (9, "nine"), (2, "two"), (7, "seven")):
            roll.do(number, charge(name, "a"))
        self.places(roll, (2, "two"), (5, "five"), (7, "seven"), (9, "nine"))
        roll.do(10, ("part", "five", 2, "rest"))
        self.places(roll, (2, "two"), (5, "five"), (5, "rest"), (7, "seven"), (9, "nine"))
        roll.do(6, charge("six", "b"))
        roll.do(4, reserve("four", "b", 9))
        self.places(roll, (2, "two"), (4, "four"), (5, "five"), (5, "rest"), (6, "six"), (7, "seven"), (9, "nine"))
        # In a trade the places keep their numbers.
        roll.do(11, ("trade", "two", "seven"))
        self.places(roll, (2, "seven"), (4, "four"), (5, "five"), (5, "rest"), (6, "six"), (7, "two"), (9, "nine"))
        roll.do(3, charge("three", "b"))
        roll.do(8, charge("eight", "b"))
        self.places(roll, (2, "seven"), (3, "three"), (4, "four"), (5, "five"), (5, "rest"), (6, "six"), (7, "two"),
                    (8, "eight"), (9, "nine"))
        roll.do(12, ("repay", "five", 2))
        roll.do(13, ("release", "six", "b"))
        self.places(roll, (2, "seven"), (3, "three"), (4, "four"), (5, "rest"), (7, "two"), (8, "eight"), (9, "nine"))
        roll.do(14, ("trade", "four", "two"))
        self.places(roll, (2, "seven"), (3, "three"), (4, "two"), (5, "rest"), (7, "four"), (8, "eight"), (9, "nine"))
        roll.turn_to(10)
        self.places(roll, (2, "seven"), (3, "three"), (4, "two"), (5, "rest"), (8, "eight"), (9, "nine"))

    def test_reserve(self):
        roll = roll_of(reserve("one", "ab", 30, amount=7))
        self.same(roll.on_paper(), RankList(Claim.held("one", 7, ("a", "b"))))
        self.same([roll.last_day("one"), roll.last_day(name="one"), roll.ranks()[1].reserved], [30, 30, True])
        for value in any_values() + ["two", "a"]:
            self.assertIsNone(roll.last_day(value))

    def test_reserved_claims_on_their_last_day_and_behind_it(self):
        for turn in (True, False):
            roll = roll_of(reserve("one", "a", 5), charge("two", "a"), reserve("three", "b", 6))

            def move(number, day):
                if turn:
                    roll.turn_to(day)
                else:
                    roll.do(number, ("gift", ("c",), "bob", "dan", Share(1, 9)), day=day)

            move(4, 5)
            self.places(roll, (1, "one"), (2, "two"), (3, "three"))
            move(5, 6)
            self.places(roll, (2, "two"), (3, "three"))
            self.fails(UnknownClaim, lambda: roll.came_by("one", "a"), "one")
            self.assertIsNone(roll.last_day("one"))
            move(6, 9999)
            self.places(roll, (2, "two"))
        # First the day changes, so the name is free, and there is room.
        roll = roll_of(reserve("one", "a", 5))
        self.refused(roll, DuplicateName, 2, charge("one", "a"), "one", day=5)
        roll.do(2, charge("one", "a"), day=6)
        self.same([roll.on_paper()[1].owner, roll.places()], ["eve", [(2, "one")]])

    def test_a_reserved_claim_that_is_filled_stays(self):
        roll = roll_of(reserve("one", "a", 5), ("fill", "one", "dan"))
        self.same([roll.last_day("one"), roll.on_paper()[1].owner], [None, "dan"])
        roll.turn_to(100)
        self.places(roll, (1, "one"))
        self.refused(roll, NotReserved, 3, ("fill", "one", "eve"), "one")
        late = roll_of(reserve("one", "a", 5))
        self.refused(late, UnknownClaim, 2, ("fill", "one", "dan"), "one", day=6)

    def test_errors_of_charge_and_reserve(self):
        full = roll_of(*[charge(letter, "a") for letter in LETTERS[:24]])
        full.turn_to(8)
        for make in (charge, lambda name, lot, by=("ann",): reserve(name, lot, 8, by)):
            self.refused(full, DuplicateName, 30, make("a", "az", ("zz",)), "a")
            self.refused(full, TooMany, 30, make("y", "az", ("zz",)), 24)
            roll = roll_of(charge("one", "a"))
            roll.turn_to(8)
            self.refused(roll, DuplicateName, 2, make("one", "az", ("zz",)), "one")
            self.refused(roll, UnknownParcel, 2, make("two", "cyz", ("zz",)), "y")
            self.refused(roll, NotOwner, 2, make("two", "abc", ("bob",)), "a")
            self.refused(roll, NotOwner, 2, make("two", "abc", ("ann",)), "c")
            roll.do(2, make("two", "abc", ("ann", "bob", "cyd")))
        for day, until in ((9, 8), (9, 0)):
            self.refused(full, InvalidDay, 30, reserve("a", "z", until), until, day=day)
        self.refused(full, InvalidDay, 30, reserve("a", "z", 7), 7)
        self.refused(full, DuplicateName, 30, reserve("a", "z", 9), "a", day=9)

    def test_24_claims(self):
        roll = roll_of(*[reserve(letter, "a", 3) for letter in LETTERS[:24]])
        self.refused(roll, TooMany, 30, charge("y", "a"), 24, day=3)
        self.refused(roll, TooMany, 30, ("part", "a", 1, "y"), 24, day=3)
        roll.do(30, charge("y", "a"), day=4)
        self.places(roll, (30, "y"))

    def test_fill_repay_and_assign(self):
        roll = roll_of(reserve("one", "a", 9), charge("two", "b", amount=9))
        self.refused(roll, Reserved, 3, ("assign", "one", "dan"), "one")
        self.refused(roll, NotReserved, 3, ("fill", "two", "dan"), "two")
        self.refused(roll, InvalidAmount, 3, ("repay", "two", 10), 10)
        for deed in (("fill", "zz", "dan"), ("repay", "zz", 99), ("assign", "zz", "dan")):
            self.refused(roll, UnknownClaim, 3, deed, "zz")
        roll.do(3, ("repay", "two", 4))
        roll.do(4, ("assign", "two", "dan"))
        self.same(roll.on_paper()[2], Claim("two", "dan", 5, ("b",)))
        roll.do(5, ("repay", "one", 4))
        self.same([roll.on_paper()[1], roll.last_day("one")], [Claim("one", None, 1, ("a",)), 9])
        roll.do(6, ("repay", "one", 1))
        self.places(roll, (2, "two"))
        self.same(roll.titles().chain("a", Share(0)), [(1, ("ann",), "", True)])
        roll.do(7, charge("one", "c", ("bob",)))
        self.places(roll, (2, "two"), (7, "one"))
        self.same(roll.came_by("one", "c"), 7)

    def test_part(self):
        roll = roll_of(charge("one", "a", amount=9), ("extend", "one", "b", ("ann",), False), charge("two", "b"),
                       ("part", "one", 4, "rest"))
        self.places(roll, (1, "one"), (1, "rest"), (3, "two"))
        self.same([roll.on_paper()[1], roll.on_paper()[2]],
                  [Claim("one", "eve", 4, ("a", "b")), Claim("rest", "eve", 5, ("a", "b"))])
        self.same([roll.came_by("rest", parcel) for parcel in "ab"], [1, 2])
        # What is done to one of them later is not done to the other.
        roll.do(5, ("release", "one", "a"))
        roll.do(6, ("extend", "one", "c", ("bob",), False))
        self.same([roll.came_by("rest", "a"), roll.on_paper().claim("rest").lot], [1, ("a", "b")])
        self.fails(OutsideLot, lambda: roll.came_by("rest", "c"), "c")

    def test_a_part_of_a_reserved_claim(self):
        roll = roll_of(reserve("one", "a", 7, amount=9), ("part", "one", 4, "rest"))
        self.same([roll.last_day("one"), roll.last_day("rest")], [7, 7])
        roll.do(3, ("fill", "one", "dan"))
        self.same([roll.last_day("one"), roll.last_day("rest")], [None, 7])
        roll.turn_to(8)
        self.places(roll, (1, "one"))

    def test_errors_of_part(self):
        roll = roll_of(charge("one", "a", amount=9), charge("two", "a"))
        self.refused(roll, UnknownClaim, 3, ("part", "zz", 99, "two"), "zz")
        for many in (9, 10, 10 ** 12 - 1):
            self.refused(roll, InvalidAmount, 3, ("part", "one", many, "two"), many)
        self.refused(roll, DuplicateName, 3, ("part", "one", 8, "two"), "two")

    def test_merge(self):
        roll = roll_of(charge("one", "ab", amount=9), ("part", "one", 4, "rest"), charge("two", "b"), ("merge", "one"))
        self.places(roll, (1, "one"), (3, "two"))
        self.same([roll.on_paper()[1], roll.came_by("one", "b")], [Claim("one", "eve", 9, ("a", "b")), 1])
        self.fails(UnknownClaim, lambda: roll.came_by("rest", "a"), "rest")

    def test_errors_of_merge(self):
        roll = roll_of(charge("one", "a"), charge("two", "a"), ("part", "two", 1, "rest"))
        self.refused(roll, UnknownClaim, 4, ("merge", "zz"), "zz")
        # Other entry numbers, though the owners and lots are equal.
        self.refused(roll, Unlike, 4, ("merge", "one"), "one")
        self.refused(roll, Unlike, 4, ("merge", "rest"), "rest")
        roll.do(4, ("assign", "rest", "dan"))
        self.refused(roll, Unlike, 5, ("merge", "two"), "two")
        roll.do(5, ("assign", "two", "dan"))
        roll.do(6, ("extend", "two", "b", ("ann",), False))
        self.refused(roll, Unlike, 7, ("merge", "two"), "two")
        # The lots are equal again, but b came into them by different entries.
        roll.do(7, ("extend", "rest", "b", ("ann",), False))
        self.refused(roll, Unlike, 8, ("merge", "two"), "two")
        roll.do(8, ("release", "two", "b"))
        roll.do(9, ("release", "rest", "b"))
        roll.do(10, ("merge", "two"))
        self.places(roll, (1, "one"), (2, "two"))

    def test_merging_reserved_claims(self):
        roll = roll_of(reserve("one", "a", 7, amount=9), ("part", "one", 4, "rest"), ("merge", "one"))
        self.same([roll.on_paper(), roll.last_day("one")], [RankList(Claim.held("one", 9, ("a",))), 7])
        roll = roll_of(reserve("one", "a", 7), reserve("two", "a", 8))
        self.refused(roll, Unlike, 3, ("merge", "one"), "one")
        # A part of which only one is filled.
        roll = roll_of(reserve("one", "a", 7), ("part", "one", 1, "rest"), ("fill", "one", "dan"))
        self.refused(roll, Unlike, 4, ("merge", "one"), "one")
        roll.do(4, ("fill", "rest", "dan"))
        roll.do(5, ("merge", "one"))
        self.same(roll.on_paper(), RankList(Claim("one", "dan", 5, ("a",))))

    def test_release(self):
        roll = roll_of(charge("one", "ab"), charge("two", "b"), ("release", "one", "a"))
        self.same([roll.on_paper()[1].lot, roll.came_by("one", "b")], [("b",), 1])
        self.fails(OutsideLot, lambda: roll.came_by("one", "a"), "a")
        self.refused(roll, OutsideLot, 4, ("release", "one", "a"), "a")
        self.refused(roll, OutsideLot, 4, ("release", "one", "zz"), "zz")
        self.refused(roll, UnknownClaim, 4, ("release", "zz", "a"), "zz")
        roll.do(4, ("release", "one", "b"))
        self.places(roll, (2, "two"))
        self.same([item[0] for item in roll.titles().chain("b", Share(0))], [1, 2])

    def test_extend(self):
        roll = roll_of(reserve("one", "b", 9), ("extend", "one", "a", ("ann", "bob"), False))
        self.same([roll.on_paper()[1].lot, roll.came_by("one", "a"), roll.came_by("one", "b"), roll.last_day("one")],
                  [("a", "b"), 2, 1, 9])
        self.same([roll.titles().chain("a", Share(0)), roll.titles().chain("b", Share(0))],
                  [[(2, ("ann", "bob"), "", True)], [(1, ("ann",), "", True)]])
        self.places(roll, (1, "one"))

    def test_errors_of_extend(self):
        roll = roll_of(charge("one", "ab"))
        self.refused(roll, UnknownClaim, 2, ("extend", "zz", "y", ("zz",), False), "zz")
        self.refused(roll, InsideLot, 2, ("extend", "one", "a", ("zz",), False), "a")
        self.refused(roll, UnknownParcel, 2, ("extend", "one", "z", ("zz",), False), "z")
        self.refused(roll, NotOwner, 2, ("extend", "one", "c", ("ann",), False), "c")
        names = LETTERS[:12]
        wide = roll_of(charge("one", names), plat=Plat([list(names)]), owners={name: "ann" for name in names})
        self.refused(wide, UnknownParcel, 2, ("extend", "one", "z", ("ann",), False), "z")
        self.refused(wide, InsideLot, 2, ("extend", "one", "l", ("zz",), False), "l")

    def test_yield_and_trade(self):
        roll = roll_of(charge("one", "a", person="dan"), charge("two", "b"), reserve("three", "b", 9),
                       charge("four", "b", amount=6))
        for word in ("yield", "trade"):
            self.refused(roll, UnknownClaim, 5, (word, "yy", "zz"), "yy")
            self.refused(roll, UnknownClaim, 5, (word, "one", "zz"), "zz")
            self.refused(roll, Behind, 5, (word, "two", "one"), "two", "one")
        self.refused(roll, Reserved, 5, ("yield", "one", "three"), "three")
        self.refused(roll, Reserved, 5, ("yield", "three", "four"), "three")
        self.refused(roll, Unequal, 5, ("yield", "one", "four"), "one", "four")
        roll.do(5, ("yield", "one", "two"))
        self.same([(claim.name, claim.owner, claim.lot) for claim in roll.on_paper()][:2],
                  [("one", "eve", ("a",)), ("two", "dan", ("b",))])
        roll.do(6, ("trade", "one", "three"))
        self.places(roll, (1, "three"), (2, "two"), (3, "one"), (4, "four"))
        self.same([roll.came_by("three", "b"), roll.came_by("one", "a"), roll.last_day("three")], [3, 1, 9])
        self.same(roll.on_paper()[3], Claim("one", "eve", 5, ("a",)))

    def test_questions_about_what_is_not_there(self):
        roll = roll_of(charge("one", "a"))
        for value in any_values() + ["two", "a"]:
            self.fails(UnknownClaim, lambda: roll.came_by(value, "a"), value)
            self.fails(UnknownClaim, lambda: roll.came_by(value, value), value)
        for value in any_values() + ["one", "b"]:
            self.fails(OutsideLot, lambda: roll.came_by("one", value), value)


class Standing(Rolls):
    def test_parcels_that_do_not_stand(self):
        for knew, lots in ((False, [("a", "b")]), (True, [("b",)])):
            roll = roll_of(("gift", ("a",), "ann", "dan", Share(1)), charge("one", "b"),
                           ("extend", "one", "a", ("dan",), knew))
            self.same([claim.lot for claim in roll.ranks()], [("a", "b")])
            roll.do(4, ("void", 1))
            self.same([[claim.lot for claim in roll.ranks()], roll.on_paper()[1].lot], [lots, ("a", "b")])
            roll.do(5, ("uphold", 1))
            self.same([claim.lot for claim in roll.ranks()], [("a", "b")])

    def test_a_parcel_stands_only_if_its_number_counts_at_each_point(self):
        roll = roll_of(("gift", ("a",), "ann", "dan", Share(1, 60)), ("gift", ("a",), "ann", "dan", Share(59, 60)),
                       charge("one", "ab", ("ann", "dan"), knew=True), charge("two", "a", ("dan",), knew=True),
                       ("void", 1))
        self.same([(claim.name, claim.lot) for claim in roll.ranks()], [("one", ("a", "b"))])
        self.same(owners(roll, "a"), [("ann", "1/60"), ("dan", "59/60")])

    def test_claims_without_a_parcel_are_left_out(self):
        roll = roll_of(charge("one", "a"), charge("two", "ab"), reserve("three", "b", 9), charge("four", "c", ("bob",)))
        roll.do(5, ("void", 1))
        self.same([roll.ranks().names(), roll.on_paper().names()],
                  [["two", "three", "four"], ["one", "two", "three", "four"]])
        self.same(roll.ranks().rank("two"), 1)
        roll.do(6, ("void", 3))
        roll.do(7, ("void", 2))
        self.same(roll.ranks().names(), ["four"])
        roll.do(8, ("void", 4))
        self.same(roll.ranks(), RankList())
        roll.do(9, ("uphold", 2))
        self.same(roll.ranks(), RankList(Claim("two", "eve", 5, ("a", "b"))))
        # What is done to a claim on paper that does not stand is done all the same.
        roll.do(10, ("assign", "one", "dan"))
        roll.do(11, ("uphold", 1))
        self.same(roll.ranks()[1], Claim("one", "dan", 5, ("a",)))

    def test_a_burden_that_rests_on_a_void_passing(self):
        roll = roll_of(("gift", ("a",), "ann", "dan", Share(1)), charge("one", "a", ("dan",), knew=True),
                       charge("two", "a", ("dan",)), ("void", 1))
        self.same(roll.ranks().names(), ["two"])
        # One that was made behind the void entry is not protected.
        roll = Roll(PLAT, ANN)
        roll.do(1, ("gift", ("a",), "ann", "dan", Share(1)))
        roll.do(9, charge("one", "a", ("dan",)))
        roll.do(5, ("void", 1))
        self.same(roll.ranks().names(), [])

    def test_steps_between_neighbours_with_the_same_owners(self):
        roll = roll_of(("gift", ("a", "b"), "ann", "bob", Share(1, 2)))
        self.same(roll.ways().steps(), [("a", "b"), ("b", "a")])
        roll.do(2, ("gift", ("c",), "bob", "ann", Share(1, 3)))
        self.same(roll.ways().steps(), [("a", "b"), ("b", "a")])
        roll.do(3, ("gift", ("c",), "bob", "ann", Share(1, 6)))
        self.same(roll.ways().steps(), [("a", "b"), ("a", "c"), ("b", "a"), ("b", "c"), ("c", "a"), ("c", "b")])
        self.same(roll.ways().way("c"), ["c", "a"])
        roll.do(4, ("gift", ("a",), "ann", "dan", Share(1, 60)))
        self.same(roll.ways().steps(), [("b", "c"), ("c", "b")])
        roll.do(5, ("void", 1))
        self.same(roll.ways().steps(), [])
        apart = Roll(Plat([["a", "b", "c"]]), {"a": "ann", "b": "bob", "c": "ann"})
        self.same(apart.ways().steps(), [])

    def test_a_granted_step_between_the_same_owners(self):
        roll = roll_of(("grant", "a", "b", ("ann",), False))
        self.same([roll.ways().steps(), len(roll.ways())], [[("a", "b"), ("b", "a")], 2])


class Twins(Rolls):
    def test_twins_that_are_led_apart(self):
        roll = roll_of(charge("one", "ab"), reserve("two", "b", 5), ("grant", "a", "c", ("bob",), False))
        other = roll.twin()
        before = records(roll)
        self.assertEqual(records(other), before)
        self.assertIs(other.__class__, Roll)
        for number, deed in enumerate((("gift", ("a",), "ann", "dan", Share(1, 2)), ("repay", "one", 2),
                                       ("waive", "a", "c"), ("extend", "two", "a", ("ann", "dan"), True),
                                       ("divide", "c", ((2, 0),), "d"), ("part", "one", 1, "rest"), ("void", 1)), start=4):
            other.do(number, deed, day=3)
            self.assertEqual(records(roll), before)
        other.turn_to(6)
        self.assertEqual(records(roll), before)
        behind = records(other)
        self.refused(other, DuplicateNumber, 3, ("repay", "one", 1), 3)
        roll.do(4, ("heirs", "bob", (("ann", 1),)))
        roll.turn_to(4)
        self.assertEqual(records(other), behind)
        self.assertNotEqual(records(roll), before)

    def test_what_is_told_is_new(self):
        roll = roll_of(charge("one", "ab"), ("grant", "a", "c", ("bob",), False))
        before = records(roll)
        roll.grants().clear()
        roll.places().clear()
        titles = roll.titles()
        titles.give(9, ("a",), "ann", "dan", Share(1))
        titles.void(10, 1)
        self.assertEqual(records(roll), before)
        # So the number 9 is still free for the roll.
        roll.do(9, ("gift", ("a",), "ann", "cyd", Share(1)))
        self.same(owners(roll, "a"), [("cyd", "1")])
        self.same([titles.owners("a")[0][0]], ["dan"])


if __name__ == "__main__":
    unittest.main()
