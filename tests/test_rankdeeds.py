"""Rank deeds, each with its errors in their order: [18]."""

import unittest

from deedranks.claims import Claim
from deedranks.errors import Behind, DuplicateName, InsideLot, InvalidAmount, InvalidClaim, InvalidDeed, InvalidName
from deedranks.errors import InvalidNumber, NotReserved, OutsideLot, Reserved, TooMany, Unequal, UnknownClaim, Unlike
from deedranks.rankdeeds import changed
from deedranks.ranks import RankList
from support import Case, any_values

SIZES = {"enter": 3, "cancel": 2, "repay": 3, "assign": 3, "fill": 3, "part": 4, "merge": 2, "release": 3, "extend": 3,
         "yield": 3, "trade": 3, "divide": 3, "unite": 3}
LETTERS = "abcdefghijklmnopqrstuvwxyz"
FULL_LOT = tuple(LETTERS[:12])


def full_list():
    return RankList(*[Claim(letter, "ann", 5, ("p",)) for letter in LETTERS[:24]])


class Deeds(Case):
    def setUp(self):
        self.one = Claim("one", "ann", 10, ("a", "b"))
        self.two = Claim.held("two", 10, ("b",))
        self.three = Claim("three", "bob", 10, ("a",))
        self.ranks = RankList(self.one, self.two, self.three)

    def tearDown(self):
        # The former list stays, whatever was done.
        self.assertEqual(self.ranks, RankList(Claim("one", "ann", 10, ("a", "b")), Claim.held("two", 10, ("b",)),
                                              Claim("three", "bob", 10, ("a",))))

    def gives(self, deed, *claims):
        for found in (changed(self.ranks, deed), changed(deed=deed, ranks=self.ranks)):
            self.assertIsInstance(found, RankList)
            self.assertEqual(found.claims(), list(claims))

    def refused(self, deed, error, *told):
        self.fails(error, lambda: changed(self.ranks, deed), *told)

    def unknown(self, *deeds):
        """Each deed is a function of a name that is none."""
        for value in any_values() + ["four", "ann"]:
            for deed in deeds:
                self.refused(deed(value), UnknownClaim, value)

    def test_values_that_are_no_deeds(self):
        for value in any_values():
            self.refused(value, InvalidDeed, 0)
            self.refused((value,), InvalidDeed, 0)
            self.refused((value, "one", "a"), InvalidDeed, 0)
        for word, size in SIZES.items():
            for many in range(1, 7):
                if many != size:
                    self.refused((word,) + ("one",) * (many - 1), InvalidDeed, 0)
            self.refused([word] + ["one"] * (size - 1), InvalidDeed, 0)
            self.refused(((word,) + ("one",) * (size - 1),), InvalidDeed, 0)
        for word in ("sale", "", "Enter", "enter ", "charge", "strike"):
            self.refused((word, "one"), InvalidDeed, 0)
            self.refused((word, "one", "a"), InvalidDeed, 0)

    def test_enter(self):
        new = Claim("new", "cyd", 1, ("z",))
        self.gives(("enter", new, 1), new, self.one, self.two, self.three)
        self.gives(("enter", new, 2), self.one, new, self.two, self.three)
        self.gives(("enter", new, 4), self.one, self.two, self.three, new)
        self.assertEqual(changed(RankList(), ("enter", new, 1)), RankList(new))
        for value in any_values():
            if not isinstance(value, Claim):
                self.refused(("enter", value, 0), InvalidClaim, 0)
                self.fails(InvalidClaim, lambda: changed(full_list(), ("enter", value, 0)), 0)
            if value is True or value != 1:
                self.refused(("enter", new, value), InvalidNumber, value)
        for at in (0, 5, -1, True, "1"):
            self.refused(("enter", new, at), InvalidNumber, at)
            self.refused(("enter", self.two.with_owner("ann"), at), DuplicateName, "two")
            self.fails(TooMany, lambda: changed(full_list(), ("enter", Claim("a", "ann", 1, ("a",)), at)), 24)

    def test_cancel(self):
        self.gives(("cancel", "two"), self.one, self.three)
        self.gives(("cancel", "one"), self.two, self.three)
        self.unknown(lambda name: ("cancel", name))
        self.assertEqual(changed(RankList(self.one), ("cancel", "one")), RankList())

    def test_repay(self):
        self.gives(("repay", "one", 1), self.one.with_amount(9), self.two, self.three)
        self.gives(("repay", "two", 9), self.one, self.two.with_amount(1), self.three)
        self.gives(("repay", "two", 10), self.one, self.three)
        self.unknown(lambda name: ("repay", name, 0))
        for value in any_values() + [0, 11, -1, 10 ** 12, True]:
            if value is True or value != 1:
                self.refused(("repay", "one", value), InvalidAmount, value)

    def test_assign(self):
        self.gives(("assign", "one", "cyd"), self.one.with_owner("cyd"), self.two, self.three)
        self.gives(("assign", "one", "ann"), self.one, self.two, self.three)
        self.unknown(lambda name: ("assign", name, 5))
        for value in any_values():
            self.refused(("assign", "two", value), Reserved, "two")
            self.refused(("assign", "one", value), InvalidName, value)

    def test_fill(self):
        self.gives(("fill", "two", "ann"), self.one, self.two.with_owner("ann"), self.three)
        self.unknown(lambda name: ("fill", name, 5))
        for value in any_values():
            self.refused(("fill", "one", value), NotReserved, "one")
            self.refused(("fill", "two", value), InvalidName, value)

    def test_part(self):
        self.gives(("part", "one", 3, "new"), self.one.with_amount(3), Claim("new", "ann", 7, ("a", "b")), self.two,
                   self.three)
        self.gives(("part", "two", 9, "new"), self.one, self.two.with_amount(9), Claim.held("new", 1, ("b",)),
                   self.three)
        self.unknown(lambda name: ("part", name, 0, "one"))
        for value in any_values() + [10, 11, 0]:
            if value is True or value != 1:
                self.refused(("part", "one", value, "one"), InvalidAmount, value)
            if value not in (10, 11):
                self.refused(("part", "one", 5, value), InvalidName, value)
        self.refused(("part", "one", 5, "three"), DuplicateName, "three")
        self.refused(("part", "one", 5, "one"), DuplicateName, "one")
        self.fails(TooMany, lambda: changed(full_list(), ("part", "a", 1, 5)), 24)
        self.fails(InvalidAmount, lambda: changed(full_list(), ("part", "a", 5, 5)), 5)
        single = RankList(self.one.with_amount(1))
        self.fails(InvalidAmount, lambda: changed(single, ("part", "one", 1, "new")), 1)
        many = RankList(*full_list().claims()[:23])
        self.assertEqual(len(changed(many, ("part", "w", 1, "new"))), 24)

    def test_merge(self):
        parted = changed(self.ranks, ("part", "one", 3, "new"))
        self.assertEqual(changed(parted, ("merge", "one")), self.ranks)
        ranks = RankList(self.one, Claim("x", "ann", 5, ("a", "b")), self.two, Claim.held("y", 7, ("b",)))
        self.assertEqual(changed(ranks, ("merge", "one")).claims(), [self.one.with_amount(15)] + ranks.claims()[2:])
        self.assertEqual(changed(ranks, ("merge", "two")).claims(), ranks.claims()[:2] + [self.two.with_amount(17)])
        self.fails(Unlike, lambda: changed(ranks, ("merge", "x")), "x")
        self.unknown(lambda name: ("merge", name))
        self.refused(("merge", "one"), Unlike, "one")
        self.refused(("merge", "three"), Unlike, "three")
        ranks = RankList(self.one, Claim("x", "bob", 5, ("a", "b")), Claim("y", "bob", 5, ("a",)))
        self.fails(Unlike, lambda: changed(ranks, ("merge", "one")), "one")
        self.fails(Unlike, lambda: changed(ranks, ("merge", "x")), "x")
        ranks = RankList(Claim.held("one", 1, ("a",)), Claim("two", "ann", 1, ("a",)))
        self.fails(Unlike, lambda: changed(ranks, ("merge", "one")), "one")
        self.assertEqual(changed(full_list(), ("merge", "w")).names(), list(LETTERS[:23]))

    def test_release(self):
        self.gives(("release", "one", "a"), self.one.with_lot(("b",)), self.two, self.three)
        self.gives(("release", "one", "b"), self.one.with_lot(("a",)), self.two, self.three)
        self.gives(("release", "two", "b"), self.one, self.three)
        self.unknown(lambda name: ("release", name, "z"))
        for value in any_values() + ["z"]:
            self.refused(("release", "one", value), OutsideLot, value)
        self.refused(("release", "three", "b"), OutsideLot, "b")

    def test_extend(self):
        self.gives(("extend", "one", "aa"), self.one.with_lot(("a", "aa", "b")), self.two, self.three)
        self.gives(("extend", "two", "a"), self.one, self.two.with_lot(("a", "b")), self.three)
        self.gives(("extend", "two", "z"), self.one, self.two.with_lot(("b", "z")), self.three)
        self.unknown(lambda name: ("extend", name, 5))
        for value in any_values():
            self.refused(("extend", "one", value), InvalidName, value)
        self.refused(("extend", "one", "b"), InsideLot, "b")
        full = RankList(Claim("one", "ann", 1, FULL_LOT), Claim("two", "ann", 1, FULL_LOT[:11]))
        self.fails(TooMany, lambda: changed(full, ("extend", "one", "z")), 12)
        self.fails(InsideLot, lambda: changed(full, ("extend", "one", "a")), "a")
        self.assertEqual(changed(full, ("extend", "two", "l")).claim("two").lot, FULL_LOT)

    def test_yield(self):
        self.gives(("yield", "one", "three"), self.one.with_owner("bob"), self.two, self.three.with_owner("ann"))
        self.unknown(lambda name: ("yield", name, name), lambda name: ("yield", "one", name),
                     lambda name: ("yield", name, "zz"))
        self.refused(("yield", "three", "one"), Behind, "three", "one")
        self.refused(("yield", "one", "one"), Behind, "one", "one")
        self.refused(("yield", "three", "two"), Behind, "three", "two")
        self.refused(("yield", "one", "two"), Reserved, "two")
        self.refused(("yield", "two", "three"), Reserved, "two")
        ranks = RankList(Claim.held("a", 1, ("p",)), Claim.held("b", 2, ("p",)), Claim("c", "ann", 3, ("p",)),
                         Claim("d", "bob", 4, ("p",)))
        self.fails(Reserved, lambda: changed(ranks, ("yield", "a", "b")), "a")
        self.fails(Reserved, lambda: changed(ranks, ("yield", "b", "c")), "b")
        self.fails(Unequal, lambda: changed(ranks, ("yield", "c", "d")), "c", "d")

    def test_trade(self):
        self.gives(("trade", "one", "three"), self.three, self.two, self.one)
        self.gives(("trade", "one", "two"), self.two, self.one, self.three)
        self.gives(("trade", "two", "three"), self.one, self.three, self.two)
        self.unknown(lambda name: ("trade", name, name), lambda name: ("trade", "one", name),
                     lambda name: ("trade", name, "zz"))
        self.refused(("trade", "three", "two"), Behind, "three", "two")
        self.refused(("trade", "two", "two"), Behind, "two", "two")

    def test_divide(self):
        self.gives(("divide", "a", "c"), self.one.with_lot(("a", "b", "c")), self.two, self.three.with_lot(("a", "c")))
        self.gives(("divide", "b", "aa"), self.one.with_lot(("a", "aa", "b")), self.two.with_lot(("aa", "b")),
                   self.three)
        self.gives(("divide", "y", "z"), self.one, self.two, self.three)
        for value in any_values():
            self.refused(("divide", value, value), InvalidName, value)
            self.refused(("divide", value, "c"), InvalidName, value)
            self.refused(("divide", "a", value), InvalidName, value)
        self.refused(("divide", "a", "a"), DuplicateName, "a")
        self.refused(("divide", "y", "y"), DuplicateName, "y")
        self.refused(("divide", "y", "b"), DuplicateName, "b")
        full = RankList(Claim("one", "ann", 1, ("a",)), Claim("two", "ann", 1, FULL_LOT))
        self.fails(TooMany, lambda: changed(full, ("divide", "a", "z")), 12)
        self.fails(DuplicateName, lambda: changed(full, ("divide", "a", "l")), "l")
        self.assertEqual(changed(full, ("divide", "y", "z")), full)
        nearly = RankList(Claim("two", None, 1, FULL_LOT[:11]))
        self.assertEqual(changed(nearly, ("divide", "a", "l")), RankList(Claim("two", None, 1, FULL_LOT)))

    def test_unite(self):
        ranks = RankList(self.one, Claim.held("x", 1, ("a", "b", "c")), Claim("y", "ann", 1, ("c",)))
        self.assertEqual(changed(ranks, ("unite", "b", "a")).claims(),
                         [self.one.with_lot(("b",)), Claim.held("x", 1, ("b", "c")), ranks[3]])
        self.assertEqual(changed(ranks, ("unite", "a", "b")).claims()[0].lot, ("a",))
        self.gives(("unite", "y", "z"), self.one, self.two, self.three)
        for value in any_values():
            self.refused(("unite", value, value), InvalidName, value)
            self.refused(("unite", value, "c"), InvalidName, value)
            self.refused(("unite", "a", value), InvalidName, value)
        self.refused(("unite", "a", "a"), DuplicateName, "a")
        self.refused(("unite", "y", "y"), DuplicateName, "y")
        self.refused(("unite", "a", "b"), Unlike, "two")
        self.refused(("unite", "a", "z"), Unlike, "one")
        self.refused(("unite", "z", "b"), Unlike, "one")
        divided = changed(self.ranks, ("divide", "a", "c"))
        self.assertEqual(changed(divided, ("unite", "a", "c")), self.ranks)


if __name__ == "__main__":
    unittest.main()
