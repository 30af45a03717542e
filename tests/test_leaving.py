"""What right plans leave: [29]."""

import unittest

from deedranks.claims import Claim
from deedranks.leaving import left, left_plan
from deedranks.ranks import RankList
from deedranks.totals import is_right
from support import Case, all_plans, any_values, plain_sum, random_cases, row_of

RANKS = RankList(Claim("one", "ann", 3, ("a", "b")), Claim("held", None, 9, ("a", "b")), Claim("two", "bob", 2, ("b",)))
PRICES = {"z": 5, "b": 4, "a": 4}


def some_lists(rng):
    """Lists of names of parcels: all, none, some, some doubled, some in no lot."""
    return [list("abcde"), [], rng.sample("abcde", 2), [rng.choice(["a", "b", "c", "zz", "yy"]) for _ in range(4)]]


class Left(Case):
    def test_some(self):
        self.same(left(RANKS, PRICES, ["a"]), (1, 3))
        self.same(left(prices=PRICES, parcels=("b", "z", "b"), ranks=RANKS), (5, 7))
        self.same([left(RANKS, PRICES, []), left(RANKS, PRICES, ["y"]), left(RANKS, PRICES, ["a", "b"])],
                  [(0, 0), (0, 0), (3, 3)])
        self.same([left(RankList(), PRICES, ["a", "z"]), left(RANKS, {}, ["a", "b"]), left(RANKS, PRICES, ["z"])],
                  [(9, 9), (0, 0), (5, 5)])
        self.same(left(RANKS, {"a": 10 ** 40, "b": 10 ** 12}, ["a", "a"]), (10 ** 40 - 3, 10 ** 40))

    def test_against_plain_cuts(self):
        wide = 0
        for rng, ranks, prices in random_cases("left", 250):
            demands = ranks.demands()
            for parcels in some_lists(rng):
                whole = sum(prices[parcel] for parcel in prices if parcel in parcels)
                others = [parcel for parcel in prices if parcel not in parcels]
                least = whole - plain_sum(demands, prices, parcels)
                most = whole - plain_sum(demands, prices) + plain_sum(demands, prices, others)
                self.same(left(ranks, prices, parcels), (least, most))
                self.same(left(ranks, dict(sorted(prices.items())), tuple(parcels)), (least, most))
                wide += most - least > 1
        self.assertGreater(wide, 40)

    def test_against_all_plans(self):
        for rng, ranks, prices in random_cases("left plans", 120):
            demands = ranks.demands()[:3]
            few = RankList(*[claim for claim in ranks if claim.demand() in demands and not claim.reserved])
            lots = [parcel for _, _, lot in demands for parcel in lot]
            if len(lots) > 4 or max(prices.values(), default=0) > 4:
                continue
            plans = [plan for plan in all_plans(demands, prices)]
            right = max(row_of(demands, plan) for plan in plans)
            for parcels in some_lists(rng):
                whole = sum(prices[parcel] for parcel in prices if parcel in parcels)
                found = {whole - sum(number for key, number in plan.items() if key[1] in parcels)
                         for plan in plans if row_of(demands, plan) == right}
                least, most = left(few, prices, parcels)
                self.assertEqual(sorted(found), list(range(least, most + 1)))


class LeftPlans(Case):
    def test_each_number_between(self):
        wide = 0
        for rng, ranks, prices in random_cases("left plan", 250):
            for parcels in some_lists(rng):
                least, most = left(ranks, prices, parcels)
                for rest in range(least, most + 1):
                    plan = left_plan(ranks, prices, parcels, rest)
                    self.is_plain_plan(ranks.demands(), prices, plan)
                    self.assertIs(is_right(ranks, prices, plan), True)
                    given = sum(number for key, number in plan.items() if key[1] in parcels)
                    whole = sum(prices[parcel] for parcel in prices if parcel in parcels)
                    self.assertEqual(whole - given, rest)
                    turned = {name: prices[name] for name in rng.sample(sorted(prices), len(prices))}
                    self.same(left_plan(ranks, turned, parcels, rest), plan)
                wide += most - least > 1
                for rest in (least - 1, most + 1, -1, 10 ** 12):
                    self.assertIsNone(left_plan(ranks, prices, parcels, rest))
        self.assertGreater(wide, 40)

    def test_great_numbers(self):
        prices = {"a": 10 ** 40, "b": 10 ** 12}
        for rest in (10 ** 40 - 3, 10 ** 40 - 2, 10 ** 40):
            plan = left_plan(parcels=["a"], rest=rest, prices=prices, ranks=RANKS)
            self.assertIs(is_right(RANKS, prices, plan), True)
            self.assertEqual(plan.get(("one", "a"), 0), 10 ** 40 - rest)
        self.assertIsNone(left_plan(RANKS, prices, ["a"], 10 ** 40 - 4))
        self.assertIsNone(left_plan(RANKS, prices, ["a"], 10 ** 40 + 1))

    def test_values_of_any_kind(self):
        for value in any_values() + ["2", (2,), [2], 2.0]:
            found = left_plan(RANKS, PRICES, ["a"], value)
            self.assertIs(found is None, not (value.__class__ is int and 1 <= value <= 3))
        for value in (True, False):
            self.assertIsNone(left_plan(RANKS, {"a": 4, "b": 2}, ["b"], value))
        self.same([left_plan(RankList(), {}, [], 0), left_plan(RankList(), {"a": 1}, ["a"], 1)], [{}, {}])
        self.assertIsNone(left_plan(RankList(), {}, [], False))

    def test_prices_that_are_wrong(self):
        self.fails_by_prices(lambda prices: left(RANKS, prices, ["a"]))
        self.fails_by_prices(lambda prices: left_plan(RANKS, prices, ["a"], None))
        self.fails_by_prices(lambda prices: left(RankList(), prices, []))
        self.fails_by_prices(lambda prices: left_plan(RankList(), prices, [], 0))

    def test_what_is_passed_stays(self):
        prices, parcels = dict(PRICES), ["b", "a", "b"]
        left(RANKS, prices, parcels)
        left_plan(RANKS, prices, parcels, 3).clear()
        self.same(left_plan(RANKS, prices, parcels, 3), left_plan(RANKS, PRICES, ["a", "b"], 3))
        self.assertEqual([list(prices.items()), parcels], [list(PRICES.items()), ["b", "a", "b"]])


if __name__ == "__main__":
    unittest.main()
