"""Fillings: [27]."""

import unittest

from deedranks.claims import Claim
from deedranks.errors import Came, Reserved, UnknownClaim
from deedranks.filling import Filling
from deedranks.ranks import RankList
from support import Case, any_values, plain_totals, random_cases, row_of

RANKS = RankList(Claim("one", "ann", 3, ("a", "b")), Claim("held", None, 9, ("a", "b")), Claim("two", "bob", 2, ("b",)),
                 Claim("three", "ann", 4, ("a",)))
PRICES = {"b": 2, "a": 4, "z": 1}


def state(filling):
    return [filling.came(), filling.totals(), filling.plan(), filling.complete, len(filling), repr(filling)]


class Fillings(Case):
    def test_one(self):
        filling = Filling(RANKS, PRICES)
        self.same(state(filling), [[], [], {}, False, 0, "Filling(0 of 3)"])
        self.same(filling.come("three"), [("three", 4)])
        self.same(state(filling), [["three"], [("three", 4)], {("three", "a"): 4}, False, 1, "Filling(1 of 3)"])
        self.same(filling.come(name="one"), [("one", 3), ("three", -1)])
        self.same(filling.totals(), [("one", 3), ("three", 3)])
        self.same(filling.come("two"), [("two", 2), ("three", -2)])
        self.same([filling.came(), filling.totals(), filling.complete, len(filling), repr(filling)],
                  [["three", "one", "two"], [("one", 3), ("two", 2), ("three", 1)], True, 3, "Filling(3 of 3)"])

    def test_a_demand_that_gets_nothing(self):
        filling = Filling(prices={"b": 1}, ranks=RANKS)
        self.same([filling.come("three"), filling.come("two"), filling.totals()],
                  [[], [("two", 1)], [("two", 1), ("three", 0)]])
        self.same([filling.come("one"), filling.totals(), filling.complete],
                  [[("one", 1), ("two", -1)], [("one", 1), ("two", 0), ("three", 0)], True])

    def test_lists_without_demands(self):
        for ranks in (RankList(), RankList(Claim("held", None, 9, ("a", "b")))):
            self.same(state(Filling(ranks, PRICES)), [[], [], {}, True, 0, "Filling(0 of 0)"])

    def test_any_order(self):
        for rng, ranks, prices in random_cases("filling", 200):
            filling = Filling(ranks, prices)
            names = [name for name, _, _ in ranks.demands()]
            order = rng.sample(names, len(names))
            before = {}
            for at, name in enumerate(order):
                self.assertIs(filling.complete, False)
                changes = filling.come(name)
                there = RankList(*[claim for claim in ranks if claim.name in order[:at + 1]])
                expected = plain_totals(there, prices)
                self.same(filling.totals(), expected)
                self.same(changes, [(other, total - before.get(other, 0)) for other, total in expected
                                    if total != before.get(other, 0)])
                self.check_changes(names, name, changes)
                before = dict(expected)
                plan = filling.plan()
                self.is_plain_plan(there.demands(), prices, plan)
                self.assertEqual(row_of(there.demands(), plan), [total for _, total in expected])
                self.same(state(filling.twin()), state(filling))
                self.same([filling.came(), len(filling), repr(filling)],
                          [order[:at + 1], at + 1, f"Filling({at + 1} of {len(names)})"])
            self.assertIs(filling.complete, True)
            self.same(filling.totals(), [row for row in plain_totals(ranks, prices) if row[0] in names])

    def check_changes(self, names, new, changes):
        """Only the new one gains, no elder one changes, and the younger ones lose at most what it gets."""
        got = dict(changes)
        own = got.pop(new, 0)
        self.assertGreaterEqual(own, 0)
        for name, change in got.items():
            self.assertGreater(names.index(name), names.index(new))
            self.assertLess(change, 0)
        self.assertGreaterEqual(own + sum(got.values()), 0)

    def test_errors_in_their_order(self):
        filling = Filling(RANKS, PRICES)
        filling.come("two")
        before = state(filling)
        for value in any_values() + ["ann", "a", "four"]:
            self.fails(UnknownClaim, lambda: filling.come(value), value)
            self.fails(UnknownClaim, lambda: Filling(RankList(), {}).come(value), value)
        self.fails(Reserved, lambda: filling.come("held"), "held")
        self.fails(Came, lambda: filling.come("two"), "two")
        self.same(state(filling), before)
        filling.come("one")
        self.fails(Came, lambda: filling.come("two"), "two")
        self.fails(Came, lambda: filling.come(name="one"), "one")
        self.assertEqual(filling.came(), ["two", "one"])

    def test_prices_that_are_wrong(self):
        self.fails_by_prices(lambda prices: Filling(RANKS, prices))
        self.fails_by_prices(lambda prices: Filling(RankList(), prices))

    def test_the_prices_are_copied(self):
        prices = dict(PRICES)
        filling = Filling(RANKS, prices)
        prices["a"] = 0
        prices["b"] = "x"
        self.same(filling.come("three"), [("three", 4)])
        del prices["z"]
        self.same(filling.twin().come("one"), [("one", 3), ("three", -1)])
        self.assertEqual(prices, {"a": 0, "b": "x"})

    def test_the_order_of_the_keys_means_nothing(self):
        first, second = Filling(RANKS, PRICES), Filling(RANKS, dict(sorted(PRICES.items())))
        for name in ("three", "one", "two"):
            self.same(first.come(name), second.come(name))
            self.same(state(first), state(second))

    def test_twins_that_are_led_apart(self):
        filling = Filling(RANKS, PRICES)
        filling.come("three")
        other = filling.twin()
        before = state(filling)
        other.come("two")
        self.same(state(filling), before)
        self.same(other.came(), ["three", "two"])
        filling.come("one")
        self.same([other.came(), filling.came(), len(other), len(filling)],
                  [["three", "two"], ["three", "one"], 2, 2])
        self.same(other.totals(), [("two", 2), ("three", 4)])
        self.assertIsInstance(other, Filling)

    def test_what_is_returned_is_new(self):
        filling = Filling(RANKS, PRICES)
        filling.come("two").clear()
        before = state(filling)
        for call in (filling.came, filling.totals, filling.plan):
            call().clear()
        self.same(state(filling), before)


if __name__ == "__main__":
    unittest.main()
