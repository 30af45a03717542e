"""Demands and prices: [20]."""

import unittest

from deedranks import cuts, flows, foul, papers, plans, totals
from deedranks.claims import Claim
from deedranks.demands import check_demands, check_prices, is_demand, price_row
from deedranks.errors import InvalidDemand, InvalidPrices, TooMany
from deedranks.ranks import RankList
from support import Case, any_values, is_plain_price

LETTERS = "abcdefghijklmnopqrstuvwxyz"
LOT = tuple("abcdefghijkl")


class Demands(Case):
    def test_what_is_a_demand(self):
        for value in (("one", 1, ("a",)), ("a", 10 ** 12, LOT), ("abcdef", 10 ** 40, ("a", "b")), ("a", 5, ("a",))):
            self.assertIs(is_demand(value), True)
        self.assertIs(is_demand(value=("one", 1, ("a",))), True)

    def test_what_is_none(self):
        for value in any_values():
            self.assertIs(is_demand(value), False)
            self.assertIs(is_demand((value, 1, ("a",))), False)
            self.assertIs(is_demand(("one", 1, value)), False)
            self.assertIs(is_demand(("one", value, ("a",))), is_plain_price(value) and value > 0)
        for value in (["one", 1, ("a",)], ("one", 1, ["a"]), ("one", 1), ("one", 1, ("a",), 1), ("one", True, ("a",)),
                      ("one", False, ("a",)), ("one", 0, ("a",)), ("one", -3, ("a",)), ("one", 1, ("b", "a")),
                      ("one", 1, ("a", "a")), ("one", 1, ()), ("one", 1, (*LOT, "m")), ("One", 1, ("a",)),
                      ("sevenab", 1, ("a",)), (("one", 1, ("a",)),), "abc"):
            self.assertIs(is_demand(value), False)

    def test_lists_of_demands(self):
        self.fails_by_demands(check_demands)
        self.fails_by_demands(lambda value: check_demands(value=value))
        for many in (0, 1, 23, 24):
            demands = [(LETTERS[at], at + 1, ("a",)) for at in range(many)]
            self.assertIsNone(check_demands(demands))
            self.assertIsNone(check_demands(tuple(demands)))

    def test_24_and_25_demands(self):
        demands = [(LETTERS[at], 1, ("a",)) for at in range(25)]
        self.fails(TooMany, lambda: check_demands(demands), 24)
        self.fails(TooMany, lambda: check_demands(tuple(demands)), 24)
        self.fails(TooMany, lambda: check_demands([5] * 25), 24)
        self.fails(InvalidDemand, lambda: check_demands([*demands[:23], 5]), 23)
        self.fails(InvalidDemand, lambda: check_demands([*demands[:23], ("a", 1, ("b",))]), 23)


class Prices(Case):
    def test_prices(self):
        self.fails_by_prices(check_prices)
        self.fails_by_prices(lambda value: check_prices(value=value))
        for prices in ({}, {"a": 0}, {"b": 10 ** 12, "a": 1}, {"abcdef": 10 ** 40}):
            self.assertIsNone(check_prices(prices))
        self.fails(InvalidPrices, lambda: check_prices({"b": 0, "a": -1, "B": 1}), "a")
        self.fails(InvalidPrices, lambda: check_prices({"b": 0, "B": 1, "a": -1}), "B")

    def test_a_row(self):
        self.same(price_row(b=2, a=1, abcdef=0), {"a": 1, "abcdef": 0, "b": 2})
        self.same(price_row(), {})
        self.same([price_row(value=3), price_row(prices=3)], [{"value": 3}, {"prices": 3}])
        self.fails(InvalidPrices, lambda: price_row(b=1, A=1, a=-1), "A")
        self.fails(InvalidPrices, lambda: price_row(b=1, a=True, A=1), "a")
        for value in any_values():
            if not is_plain_price(value):
                self.fails(InvalidPrices, lambda: price_row(a=value), "a")
        given = {"b": 1, "a": 2}
        price_row(**given)["c"] = 3
        self.same(given, {"b": 1, "a": 2})


class Parameters(Case):
    """Each function with a parameter demands or prices checks it ahead of everything else."""

    def test_functions_of_demands(self):
        for call in (lambda demands: plans.is_plan(demands, 5, 5), lambda demands: plans.plan_totals(demands, {}),
                     lambda demands: flows.greatest_sum(demands, 5), lambda demands: flows.greatest_plan(demands, 5),
                     lambda demands: flows.find_moving(demands, 5, 5),
                     lambda demands: flows.is_moving(demands, 5, 5, 5), lambda demands: flows.room(demands, 5, 5, 5),
                     lambda demands: flows.moved(demands, 5, 5, 5, 5), lambda demands: cuts.is_cut(demands, 5),
                     lambda demands: cuts.cut_value(demands, 5, 5), lambda demands: cuts.smallest_cut(demands, 5),
                     lambda demands: cuts.largest_cut(demands, 5)):
            self.fails_by_demands(call)

    def test_functions_of_prices(self):
        demands = [("one", 1, ("a",))]
        for call in (lambda prices: plans.is_plan(demands, prices, 5), lambda prices: plans.rests(prices, {}),
                     lambda prices: flows.greatest_sum(demands, prices, parcels=[]),
                     lambda prices: flows.greatest_plan((), prices), lambda prices: flows.find_moving([], prices, 5),
                     lambda prices: flows.is_moving(demands, prices, 5, 5),
                     lambda prices: flows.room(demands, prices, 5, 5),
                     lambda prices: flows.moved(demands, prices, 5, 5, 5),
                     lambda prices: cuts.cut_value(demands, prices, 5),
                     lambda prices: cuts.smallest_cut(demands, prices),
                     lambda prices: cuts.largest_cut(demands, prices, parcels=["b"])):
            self.fails_by_prices(call)

    def test_functions_of_ranks_and_prices(self):
        for ranks in (RankList(), RankList(Claim("one", None, 1, ("a",)), Claim("two", "ann", 2, ("b",)))):
            for call in (totals.sums, totals.totals, totals.pays, totals.right_plan, papers.certificate):
                self.fails_by_prices(lambda prices: call(ranks, prices))
                self.fails_by_prices(lambda prices: call(prices=prices, ranks=ranks))
            self.fails_by_prices(lambda prices: totals.is_right(ranks, prices, 5))
            self.fails_by_prices(lambda prices: papers.judged(ranks, prices, 5, 5))
            for call in (foul.drawn_most, foul.foul_pay, foul.foul_plan, foul.is_safe):
                for name in ("one", "two", "three", 5):
                    self.fails_by_prices(lambda prices: call(ranks, prices, name))


if __name__ == "__main__":
    unittest.main()
