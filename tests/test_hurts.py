"""Hurt persons and leaves: [35]."""

import itertools
import unittest

from deedranks.alike import price_rows, row_count
from deedranks.claims import Claim
from deedranks.errors import InvalidDeed, NoLeave, Reserved, TooMany, UnknownClaim
from deedranks.hurts import hurt_persons, hurt_prices, leaves, with_leave
from deedranks.rankdeeds import changed
from deedranks.ranks import RankList
from deedranks.signs import signs
from deedranks.totals import pays
from support import Case, any_values, random_changes

RANKS = RankList(Claim("one", "ann", 1, ("a", "b")), Claim("two", "bob", 1, ("a",)), Claim("held", None, 1, ("a",)))
GREAT = RankList(Claim("one", "ann", 10 ** 12, ("a",)), Claim("two", "bob", 10 ** 12, ("a",)),
                 Claim("held", None, 5, ("a",)))


def first_hurt(before, after, person):
    for prices in price_rows(before, after):
        if pays(after, prices).get(person, 0) < pays(before, prices).get(person, 0):
            return prices
    return None


class Hurts(Case):
    def test_some(self):
        # One draws from a alone behind the first deed, and two has it alone behind the second one.
        worse, better = changed(RANKS, ("release", "one", "b")), changed(RANKS, ("release", "one", "a"))
        self.same([hurt_prices(RANKS, worse, person) for person in ("ann", "bob", "cyd")],
                  [{"a": 0, "b": 1}, {"a": 1, "b": 1}, None])
        self.same([hurt_persons(RANKS, worse), hurt_persons(worse, RANKS)], [["ann", "bob"], []])
        self.same([hurt_prices(RANKS, better, "ann"), hurt_prices(RANKS, better, "bob")], [{"a": 1, "b": 0}, None])
        self.same(hurt_persons(after=better, before=RANKS), ["ann"])
        self.same(hurt_persons(better, RANKS), ["bob"])
        self.same(hurt_prices(person="bob", after=RANKS, before=better), {"a": 1, "b": 0})
        self.same([hurt_persons(RANKS, RankList()), hurt_persons(RankList(), RANKS), hurt_persons(RANKS, RANKS)],
                  [["ann", "bob"], [], []])
        self.same(hurt_prices(RANKS, RankList(), "bob"), {"a": 1, "b": 1})
        self.assertIsNone(hurt_prices(RankList(), RankList(), "ann"))

    def test_the_first_price_row_and_all_small_prices(self):
        hurt = 0
        for before, deed, after in random_changes("hurts", 200):
            if row_count(before, after) > 100:
                continue
            persons = sorted({*before.persons(), *after.persons(), "zed"})
            found = [person for person in persons if first_hurt(before, after, person) is not None]
            self.same(hurt_persons(before, after), found)
            for person in persons:
                self.same(hurt_prices(before, after, person), first_hurt(before, after, person))
            self.same(leaves(before, deed), found)
            hurt += found != []
            for numbers in itertools.product(range(3), repeat=3):
                prices = dict(zip("pqr", numbers))
                old, new = pays(before, prices), pays(after, prices)
                self.assertEqual([person for person in old if new.get(person, 0) < old[person] and person not in found],
                                 [])
        self.assertGreater(hurt, 40)

    def test_too_many_price_rows(self):
        for first, second in ((GREAT, GREAT), (GREAT, RankList()), (RankList(), GREAT), (RANKS, GREAT)):
            for person in ("ann", "bob", "cyd"):
                self.fails(TooMany, lambda: hurt_prices(first, second, person), 729)
            self.fails(TooMany, lambda: hurt_persons(first, second), 729)
        six = RankList(*[Claim(letter, "ann", 2, (letter,)) for letter in "abcdef"])
        self.assertEqual([hurt_persons(six, RankList()), hurt_prices(six, RankList(), "bob")], [["ann"], None])
        self.fails(TooMany, lambda: hurt_persons(six + Claim("g", "bob", 1, ("g",)), six), 729)


class Leaves(Case):
    def test_some(self):
        self.same([leaves(RANKS, deed) for deed in (("release", "one", "b"), ("release", "one", "a"), ("cancel", "two"),
                                                    ("cancel", "held"), ("repay", "one", 1))],
                  [["ann", "bob"], ["ann"], ["bob"], [], ["ann"]])
        self.same(leaves(deed=("fill", "held", "cyd"), ranks=RANKS), [])
        self.same(leaves(RANKS, ("enter", Claim("new", "cyd", 1, ("a",)), 1)), ["ann", "bob"])
        self.same(leaves(RANKS, ("enter", Claim("new", "cyd", 1, ("a",)), 3)), [])
        # The sign is less, but no prices are there at which fay has less.
        ranks = RankList(Claim("one", "ann", 1, ("a",)), Claim("two", "fay", 1, ("b",)))
        deed = ("enter", Claim("new", "cyd", 1, ("a",)), 1)
        self.same([signs(ranks, deed)["fay"], leaves(ranks, deed)], ["less", ["ann"]])

    def test_no_price_rows_are_tried_where_all_signs_are_same_or_more(self):
        for deed in (("cancel", "held"), ("part", "one", 5, "new"), ("fill", "held", "ann"),
                     ("enter", Claim("new", "cyd", 1, ("a",)), 4), ("extend", "two", "b")):
            self.assertLessEqual(set(signs(GREAT, deed).values()), {"same", "more"})
            self.same(leaves(GREAT, deed), [])
            self.assertEqual(with_leave(GREAT, deed), changed(GREAT, deed))
        for deed in (("cancel", "one"), ("trade", "two", "held"), ("release", "two", "a"), ("assign", "one", "bob"),
                     ("repay", "one", 1), ("yield", "one", "two")):
            self.fails(TooMany, lambda: leaves(GREAT, deed), 729)
            self.fails(TooMany, lambda: with_leave(GREAT, deed, "ann", "bob"), 729)

    def test_with_leave(self):
        deed = ("release", "one", "b")
        after = changed(RANKS, deed)
        self.assertEqual(with_leave(RANKS, deed, "ann", "bob"), after)
        self.assertEqual(with_leave(RANKS, deed, "bob", "cyd", "bob", "ann"), after)
        self.fails(NoLeave, lambda: with_leave(RANKS, deed), "ann", {"a": 0, "b": 1})
        self.fails(NoLeave, lambda: with_leave(RANKS, deed, "bob"), "ann", {"a": 0, "b": 1})
        self.fails(NoLeave, lambda: with_leave(RANKS, deed, "ann"), "bob", {"a": 1, "b": 1})
        self.fails(NoLeave, lambda: with_leave(RANKS, deed, "cyd", "ann"), "bob", {"a": 1, "b": 1})
        self.assertEqual(with_leave(RANKS, ("cancel", "held")), RankList(*RANKS.claims()[:2]))
        self.assertEqual(with_leave(RANKS, ("cancel", "held"), "ann"), RankList(*RANKS.claims()[:2]))
        self.assertEqual(len(RANKS), 3)

    def test_each_error_in_its_order(self):
        for value in any_values() + [("divide", "a", "new"), ("unite", "a", "b"), ("cancel",), ["cancel", "one"]]:
            for ranks in (RANKS, GREAT):
                self.fails(InvalidDeed, lambda: leaves(ranks, value), 0)
                self.fails(InvalidDeed, lambda: with_leave(ranks, value, "ann"), 0)
        for ranks in (RANKS, GREAT):
            for call in (leaves, with_leave):
                self.fails(UnknownClaim, lambda: call(ranks, ("cancel", "new")), "new")
                self.fails(Reserved, lambda: call(ranks, ("assign", "held", "ann")), "held")

    def test_what_is_returned_is_new(self):
        hurt_persons(RANKS, RankList()).clear()
        hurt_prices(RANKS, RankList(), "ann").clear()
        leaves(RANKS, ("cancel", "one")).clear()
        self.same([hurt_persons(RANKS, RankList()), hurt_prices(RANKS, RankList(), "ann")],
                  [["ann", "bob"], {"a": 0, "b": 1}])
        self.same(leaves(RANKS, ("cancel", "one")), ["ann"])


if __name__ == "__main__":
    unittest.main()
