"""Claims, rank lists and their demands: [17] and [20]."""

import unittest

from deedranks.claims import Claim
from deedranks.errors import DuplicateName, InvalidAmount, InvalidClaim, InvalidLot, InvalidName, InvalidNumber
from deedranks.errors import TooMany, UnknownClaim
from deedranks.ranks import RankList
from support import Case, any_values

LETTERS = "abcdefghijklmnopqrstuvwxyz"


def claims_of(many):
    """Different claims, every third one reserved."""
    return [Claim(LETTERS[at], None if at % 3 == 2 else "ann", at + 1, ("p",)) for at in range(many)]


class Claims(Case):
    def test_attributes(self):
        claim = Claim("one", "ann", 100, ("a", "b"))
        self.same([claim.name, claim.owner, claim.amount, claim.lot, claim.reserved],
                  ["one", "ann", 100, ("a", "b"), False])
        self.same(claim.demand(), ("one", 100, ("a", "b")))
        self.assertEqual(repr(claim), "Claim(one, ann, 100, a b)")
        self.assertEqual(claim, Claim(lot=("a", "b"), amount=100, owner="ann", name="one"))

    def test_reserved_claims(self):
        claim = Claim("two", None, 10 ** 12, ("b",))
        self.same([claim.owner, claim.reserved, claim.demand()], [None, True, ("two", 10 ** 12, ("b",))])
        self.assertEqual(repr(claim), "Claim(two, -, 1000000000000, b)")
        self.assertEqual(claim, Claim.held("two", 10 ** 12, ("b",)))
        self.assertEqual(claim, Claim.held(lot=("b",), amount=10 ** 12, name="two"))
        self.assertIsInstance(Claim.held("two", 1, ("b",)), Claim)

    def test_amounts_of_any_size_can_be_written(self):
        claim = Claim("one", "ann", 10 ** 5000, ("a",))
        self.assertEqual(repr(claim), "Claim(one, ann, 1" + "0" * 5000 + ", a)")

    def test_errors_in_their_order(self):
        for value in any_values():
            self.fails(InvalidName, lambda: Claim(value, value, value, value), value)
            self.fails(InvalidName, lambda: Claim.held(value, value, value), value)
            if value is not None:
                self.fails(InvalidName, lambda: Claim("one", value, value, value), value)
            if not isinstance(value, int) or isinstance(value, bool) or value < 1:
                self.fails(InvalidAmount, lambda: Claim("one", "ann", value, value), value)
                self.fails(InvalidAmount, lambda: Claim("one", None, value, value), value)
                self.fails(InvalidAmount, lambda: Claim.held("one", value, value), value)
            self.fails(InvalidLot, lambda: Claim("one", "ann", 1, value), value)
            self.fails(InvalidLot, lambda: Claim.held("one", 1, value), value)
        self.fails(InvalidAmount, lambda: Claim("one", "ann", 0, ("a",)), 0)

    def test_with_another_part(self):
        claim = Claim("one", "ann", 5, ("a", "b"))
        self.assertEqual(claim.with_owner("bob"), Claim("one", "bob", 5, ("a", "b")))
        self.assertEqual(claim.with_owner(owner=None), Claim.held("one", 5, ("a", "b")))
        self.assertEqual(claim.with_amount(amount=7), Claim("one", "ann", 7, ("a", "b")))
        self.assertEqual(claim.with_lot(lot=("c",)), Claim("one", "ann", 5, ("c",)))
        held = Claim.held("one", 5, ("a",))
        self.assertEqual(held.with_owner("bob"), Claim("one", "bob", 5, ("a",)))
        self.assertEqual([held.with_amount(2).reserved, held.with_lot(("z",)).reserved], [True, True])
        for value in any_values():
            if value is not None:
                self.fails(InvalidName, lambda: claim.with_owner(value), value)
            if not isinstance(value, int) or isinstance(value, bool) or value < 1:
                self.fails(InvalidAmount, lambda: claim.with_amount(value), value)
            self.fails(InvalidLot, lambda: claim.with_lot(value), value)
        self.assertEqual(claim, Claim("one", "ann", 5, ("a", "b")))

    def test_equality(self):
        claim = Claim("one", "ann", 5, ("a", "b"))
        for other in (Claim("two", "ann", 5, ("a", "b")), Claim("one", None, 5, ("a", "b")), RankList(claim),
                      Claim("one", "ann", 6, ("a", "b")), Claim("one", "ann", 5, ("a",)), ("one", "ann", 5, ("a", "b"))):
            self.assertIs(claim == other, False)
            self.assertIs(claim != other, True)
        for value in any_values():
            self.assertIs(claim == value, False)
            self.assertIs(value == claim, False)
        self.assertIs(claim == Claim("one", "ann", 5, ("a", "b")), True)
        self.assertIs(Claim.held("one", 5, ("a",)) == Claim("one", None, 5, ("a",)), True)


class Lists(Case):
    def setUp(self):
        self.one = Claim("one", "cyd", 3, ("b", "d"))
        self.two = Claim.held("two", 4, ("e",))
        self.three = Claim("three", "ann", 5, ("a", "b"))
        self.four = Claim("four", "cyd", 6, ("d",))
        self.ranks = RankList(self.one, self.two, self.three, self.four)

    def test_lists(self):
        ranks = self.ranks
        self.same(ranks.names(), ["one", "two", "three", "four"])
        self.assertEqual(ranks.claims(), [self.one, self.two, self.three, self.four])
        self.assertEqual([ranks.claim("two"), ranks.claim(name="four")], [self.two, self.four])
        self.same([ranks.rank("one"), ranks.rank(name="four")], [1, 4])
        self.assertEqual([ranks[1], ranks[2], ranks[3], ranks[4]], ranks.claims())
        self.assertEqual([list(ranks), [claim for claim in ranks]], [ranks.claims()] * 2)
        self.same(ranks.persons(), ["ann", "cyd"])
        self.same([ranks.owned("cyd"), ranks.owned(person="ann"), ranks.owned("bob"), ranks.owned("-")],
                  [["one", "four"], ["three"], [], []])
        self.assertEqual(ranks.owned(None), [])
        self.same(ranks.parcels(), ["a", "b", "d", "e"])
        names = [letter for letter in LETTERS[:24][::-1]]
        many = RankList(*[Claim(name, name, 1, (name,)) for name in names])
        self.same([many.names(), many.persons(), many.parcels()], [names, names[::-1], names[::-1]])
        self.assertEqual([len(ranks), repr(ranks), repr(RankList(self.one))],
                         [4, "RankList(4 claims)", "RankList(1 claims)"])

    def test_demands(self):
        ranks = self.ranks
        self.same(ranks.demands(), [("one", 3, ("b", "d")), ("three", 5, ("a", "b")), ("four", 6, ("d",))])
        self.same([ranks.elders("one"), ranks.elders("two"), ranks.elders(name="three"), ranks.elders("four")],
                  [[], ranks.demands()[:1], ranks.demands()[:1], ranks.demands()[:2]])
        self.assertEqual(RankList(self.two).demands(), [])

    def test_the_empty_list(self):
        ranks = RankList()
        self.assertEqual([len(ranks), bool(ranks), list(ranks), ranks.claims(), ranks.names(), ranks.persons(),
                          ranks.parcels(), ranks.demands(), ranks.owned("ann"), repr(ranks), ranks == RankList()],
                         [0, True, [], [], [], [], [], [], [], "RankList(0 claims)", True])
        self.fails(InvalidNumber, lambda: ranks[1], 1)
        self.assertIs(bool(self.ranks), True)

    def test_24_and_25_claims(self):
        self.assertEqual(RankList.MOST, 24)
        ranks = RankList(*claims_of(24))
        self.assertEqual([len(ranks), ranks.rank("x"), ranks[24].amount], [24, 24, 24])
        self.fails(TooMany, lambda: RankList(*claims_of(25)), 24)
        self.fails(TooMany, lambda: RankList(*claims_of(24), claims_of(1)[0]), 24)
        self.fails(InvalidClaim, lambda: RankList(*claims_of(26), 5), 26)
        self.fails(TooMany, lambda: ranks + Claim("zz", "ann", 1, ("a",)), 24)
        self.fails(TooMany, lambda: ranks + claims_of(1)[0], 24)

    def test_wrong_claims(self):
        for value in [value for value in any_values() if not isinstance(value, Claim)]:
            self.fails(InvalidClaim, lambda: RankList(value), 0)
            self.fails(InvalidClaim, lambda: RankList(self.one, self.one, value, 5), 2)
            self.fails(InvalidClaim, lambda: self.ranks + value, 4)
            self.fails(InvalidClaim, lambda: RankList() + value, 0)
            self.fails(InvalidClaim, lambda: RankList(*claims_of(24)) + value, 24)
        same = Claim("two", "bob", 9, ("z",))
        self.fails(DuplicateName, lambda: RankList(self.two, self.one, self.one, same), "one")
        self.fails(DuplicateName, lambda: RankList(self.one, self.two, same, self.one), "two")
        self.fails(DuplicateName, lambda: self.ranks + same, "two")

    def test_one_more_claim(self):
        more = RankList(self.one) + self.two
        self.assertEqual(more, RankList(self.one, self.two))
        self.assertEqual(len(self.ranks), 4)
        self.assertEqual(RankList() + self.one + self.two, more)

    def test_ranks_and_names_that_are_none(self):
        ranks = self.ranks
        for value in any_values() + [5, 0, -1, 10 ** 12, True, "five", "ann"]:
            if value is True or value != 1:
                self.fails(InvalidNumber, lambda: ranks[value], value)
            for call in (ranks.claim, ranks.rank, ranks.elders):
                self.fails(UnknownClaim, lambda: call(value), value)
                self.fails(UnknownClaim, lambda: call(name=value), value)
            self.assertIs(value in ranks, False)
        self.fails(InvalidNumber, lambda: ranks[:1], slice(None, 1))
        self.assertEqual(["one" in ranks, "four" in ranks], [True, True])

    def test_equality(self):
        ranks = RankList(self.one, self.two)
        for other in (RankList(self.two, self.one), RankList(self.one), RankList(), [self.one, self.two],
                      RankList(self.one, self.two.with_owner("bob"))):
            self.assertIs(ranks == other, False)
        for value in any_values():
            self.assertIs(ranks == value, False)
        self.assertIs(ranks == RankList(Claim("one", "cyd", 3, ("b", "d")), Claim.held("two", 4, ("e",))), True)

    def test_what_is_returned_is_new(self):
        ranks = self.ranks
        for call in (ranks.claims, ranks.names, ranks.persons, ranks.parcels, ranks.demands,
                     lambda: ranks.owned("cyd"), lambda: ranks.elders("four")):
            before = call()
            call().clear()
            self.assertEqual(call(), before)


if __name__ == "__main__":
    unittest.main()
