"""Plans, totals, rests and sums: [21]."""

import unittest

from deedranks.flows import greatest_plan
from deedranks.plans import is_plan, plan_sum, plan_totals, rests, taken_from
from support import Case, any_values, random_cases

DEMANDS = [("one", 5, ("a", "b")), ("two", 3, ("b",)), ("a", 4, ("a", "c"))]
PRICES = {"c": 2, "a": 4, "b": 6, "z": 1}
PLAN = {("two", "b"): 3, ("one", "b"): 3, ("one", "a"): 2, ("a", "a"): 2, ("a", "c"): 2}


class Plans(Case):
    def test_plans(self):
        for plan in (PLAN, {}, {("one", "a"): 1}, {("one", "a"): 4, ("one", "b"): 1}, {("a", "c"): 2, ("a", "a"): 2}):
            self.assertIs(is_plan(DEMANDS, PRICES, plan), True)
            self.assertIs(is_plan(tuple(DEMANDS), PRICES, plan), True)
        self.assertIs(is_plan(value={}, prices={}, demands=()), True)
        big = [("one", 10 ** 30, ("a",))]
        self.assertIs(is_plan(big, {"a": 10 ** 31}, {("one", "a"): 10 ** 30}), True)
        self.assertIs(is_plan(big, {"a": 10 ** 31}, {("one", "a"): 10 ** 30 + 1}), False)

    def test_values_of_any_kind(self):
        for value in any_values():
            self.assertIs(is_plan(DEMANDS, PRICES, value), value == {})
            if isinstance(value, int) and value is not True and value > 0:
                self.assertIs(is_plan(DEMANDS, PRICES, {("one", "a"): value}), value < 5)
            else:
                self.assertIs(is_plan(DEMANDS, PRICES, {("one", "a"): value}), False)
                self.assertIs(is_plan(DEMANDS, PRICES, {**PLAN, ("one", "b"): value}), False)
        for plan in ([(("one", "a"), 1)], ((("one", "a"), 1),), [], ()):
            self.assertIs(is_plan(DEMANDS, PRICES, plan), False)

    def test_wrong_keys(self):
        for key in (None, True, False, 0, 1, -1, "", "one", "a", (), ("one",), ("one", "a", "b"), ("one", "a", "a"),
                    ("one", ("a",)), (("one",), "a"), ("one", None), (None, "a"), (True, "a"), ("one", 1),
                    ("a", "one"), ("three", "a"), ("two", "a"), ("one", "c"), ("one", "z"), ("a", "b"),
                    (("one", "a"), 1), (("one", "a"),), "oa"):
            self.assertIs(is_plan(DEMANDS, PRICES, {key: 1}), False)
            self.assertIs(is_plan(DEMANDS, PRICES, {("one", "a"): 1, key: 1}), False)

    def test_numbers_that_are_none(self):
        for number in (0, -1, True, False, "1", None, (1,), [1], -10 ** 12):
            self.assertIs(is_plan(DEMANDS, PRICES, {("one", "a"): number}), False)
            self.assertIs(is_plan(DEMANDS, PRICES, {("one", "a"): 1, ("one", "b"): number}), False)

    def test_totals_above_amounts_and_sums_above_prices(self):
        self.assertIs(is_plan(DEMANDS, PRICES, {("one", "a"): 4, ("one", "b"): 2}), False)
        self.assertIs(is_plan(DEMANDS, PRICES, {("two", "b"): 4}), False)
        self.assertIs(is_plan(DEMANDS, PRICES, {("a", "c"): 3}), False)
        self.assertIs(is_plan(DEMANDS, PRICES, {("one", "a"): 3, ("a", "a"): 2}), False)
        self.assertIs(is_plan(DEMANDS, PRICES, {("one", "b"): 4, ("two", "b"): 3}), False)
        for pair in PLAN:
            self.assertIs(is_plan(DEMANDS, PRICES, {**PLAN, pair: PLAN[pair] + 1}), False)
            self.assertIs(is_plan(DEMANDS, PRICES, {**PLAN, pair: PLAN[pair] - 1}), PLAN[pair] > 1)

    def test_parcels_that_the_prices_do_not_name(self):
        self.assertIs(is_plan(DEMANDS, {}, {("one", "a"): 1}), False)
        self.assertIs(is_plan(DEMANDS, {"b": 9}, {("one", "a"): 1, ("one", "b"): 1}), False)
        self.assertIs(is_plan(DEMANDS, {"a": 0}, {("one", "a"): 1}), False)
        self.assertIs(is_plan([], {"a": 1}, {("one", "a"): 1}), False)

    def test_the_order_of_keys_means_nothing(self):
        backwards = {pair: PLAN[pair] for pair in reversed(PLAN)}
        self.assertIs(is_plan(DEMANDS[::-1], dict(sorted(PRICES.items())), backwards), True)
        self.same(plan_totals(DEMANDS, backwards), plan_totals(DEMANDS, PLAN))
        self.same(rests(dict(sorted(PRICES.items())), backwards), rests(PRICES, PLAN))


class Sums(Case):
    def test_sums_and_totals(self):
        self.same([plan_sum(PLAN), plan_sum(plan={}), plan_sum({("one", "a"): 10 ** 20})], [12, 0, 10 ** 20])
        self.same(plan_totals(DEMANDS, PLAN), [("one", 5), ("two", 3), ("a", 4)])
        self.same(plan_totals(demands=DEMANDS[::-1], plan=PLAN), [("a", 4), ("two", 3), ("one", 5)])
        self.same(plan_totals(DEMANDS, {("one", "b"): 1}), [("one", 1), ("two", 0), ("a", 0)])
        self.same(plan_totals((), {}), [])

    def test_what_parcels_give(self):
        self.same([taken_from(PLAN, name) for name in ("a", "b", "c", "z", "one")], [4, 6, 2, 0, 0])
        self.same(taken_from(parcel="a", plan={}), 0)
        self.same(rests(PRICES, PLAN), {"a": 0, "b": 0, "c": 0, "z": 1})
        self.same(rests(prices={"z": 3, "b": 7, "a": 10 ** 13}, plan={("one", "b"): 2}),
                  {"a": 10 ** 13, "b": 5, "z": 3})
        self.same([rests({}, {}), rests({"a": 0}, {})], [{}, {"a": 0}])

    def test_against_each_other(self):
        for _, ranks, prices in random_cases("plans", 60):
            demands = ranks.demands()
            plan = greatest_plan(demands, prices)
            self.assertEqual(sum(total for _, total in plan_totals(demands, plan)), plan_sum(plan))
            self.assertEqual(sum(prices.values()) - sum(rests(prices, plan).values()), plan_sum(plan))
            for parcel in prices:
                self.assertEqual(rests(prices, plan)[parcel], prices[parcel] - taken_from(plan, parcel))
                self.assertEqual(taken_from(plan, parcel), sum(plan[key] for key in plan if key[1] == parcel))

    def test_what_is_passed_stays_and_what_is_returned_is_new(self):
        demands, prices, plan = list(DEMANDS), dict(PRICES), dict(PLAN)
        rests(prices, plan).clear()
        plan_totals(demands, plan).clear()
        is_plan(demands, prices, plan)
        self.same([demands, prices, plan], [DEMANDS, PRICES, PLAN])
        self.assertEqual([list(prices), list(plan)], [list(PRICES), list(PLAN)])


if __name__ == "__main__":
    unittest.main()
