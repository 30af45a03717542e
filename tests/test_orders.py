"""Orders of sale: [37]."""

import itertools
import unittest

from deedranks.claims import Claim
from deedranks.errors import InvalidOrder, InvalidPrices, Reserved, TooMany, UnknownClaim
from deedranks.orders import order_range, order_totals
from deedranks.ranks import RankList
from support import Case, any_values, plain_sale, random_cases, row_of

RANKS = RankList(Claim("one", "ann", 3, ("a", "b")), Claim("held", None, 9, ("a", "c")), Claim("two", "bob", 2, ("b",)),
                 Claim("three", "ann", 4, ("a",)))
PRICES = {"b": 4, "a": 5, "z": 1}


def plain_row(ranks, prices, order):
    demands = ranks.demands()
    return list(zip([name for name, _, _ in demands], row_of(demands, plain_sale(demands, prices, order))))


class Totals(Case):
    def test_orders(self):
        self.same([order_totals(RANKS, PRICES, ["a", "b"]), order_totals(RANKS, PRICES, ("b", "a"))],
                  [[("one", 3), ("two", 2), ("three", 2)], [("one", 3), ("two", 1), ("three", 4)]])
        self.same(order_totals(order=["b"], prices=PRICES, ranks=RANKS), [("one", 3), ("two", 1), ("three", 0)])
        for order in ([], (), ["z"], ["q", "z"]):
            self.same(order_totals(RANKS, PRICES, order), [("one", 0), ("two", 0), ("three", 0)])
        self.same(order_totals(RANKS, PRICES, ["q", "b", "z", "a", "c"]), [("one", 3), ("two", 1), ("three", 4)])
        self.same(order_totals(RANKS, {}, ["a", "b"]), [("one", 0), ("two", 0), ("three", 0)])
        self.same(order_totals(RankList(), PRICES, ["a", "b"]), [])

    def test_against_a_plain_sale(self):
        for rng, ranks, prices in random_cases("orders", 200):
            order = rng.sample([*"abcde", "zz", "y"], rng.randint(0, 7))
            self.same(order_totals(ranks, prices, order), plain_row(ranks, prices, order))
            self.same(order_totals(ranks, prices, tuple(order)), plain_row(ranks, prices, order))

    def test_orders_that_are_none(self):
        for value in any_values():
            if not isinstance(value, (list, tuple)):
                self.fails(InvalidOrder, lambda: order_totals(RANKS, PRICES, value), -1)
            self.fails(InvalidOrder, lambda: order_totals(RANKS, PRICES, [value]), 0)
            self.fails(InvalidOrder, lambda: order_totals(RANKS, PRICES, ("a", value, "a")), 1)
        for order, at in ((["a", "a"], 1), (("b", "a", "zz", "b", "A"), 3), (["b", "A", "b"], 1), ([["a"]], 0),
                          (["a", "b", ("a",)], 2)):
            self.fails(InvalidOrder, lambda: order_totals(RANKS, PRICES, order), at)
            self.fails(InvalidOrder, lambda: order_totals(RankList(), {}, order), at)

    def test_prices_that_are_wrong(self):
        self.fails_by_prices(lambda prices: order_totals(RANKS, prices, ["a"]))
        self.fails_by_prices(lambda prices: order_totals(RANKS, prices, None))
        self.fails(InvalidPrices, lambda: order_totals(RANKS, {"a": -1}, ["a", "a"]), "a")

    def test_what_is_passed_stays(self):
        prices, order = dict(PRICES), ["b", "a"]
        order_totals(RANKS, prices, order).clear()
        order_range(RANKS, prices, "one")
        self.same([list(prices.items()), order], [list(PRICES.items()), ["b", "a"]])


class Ranges(Case):
    def test_some(self):
        self.same(order_range(RANKS, PRICES, "one"), (3, 3, ["a", "b"], ["a", "b"]))
        self.same(order_range(RANKS, PRICES, "two"), (1, 2, ["b", "a"], ["a", "b"]))
        self.same(order_range(name="three", prices=PRICES, ranks=RANKS), (2, 4, ["a", "b"], ["b", "a"]))
        # The parcels of the reserved claim are in no order, nor are those in no lot.
        self.same(order_range(RANKS, {}, "three"), (0, 0, ["a", "b"], ["a", "b"]))

    def test_one_parcel(self):
        ranks = RankList(Claim("one", "ann", 3, ("q",)), Claim("two", "bob", 2, ("q",)))
        self.same([order_range(ranks, {"q": 4}, "one"), order_range(ranks, {"q": 4}, "two")],
                  [(3, 3, ["q"], ["q"]), (1, 1, ["q"], ["q"])])

    def test_against_all_orders(self):
        for _, ranks, prices in random_cases("ranges", 60):
            demands = ranks.demands()
            parcels = sorted({parcel for _, _, lot in demands for parcel in lot})
            orders = [list(order) for order in itertools.permutations(parcels)]
            rows = [(dict(plain_row(ranks, prices, order)), order) for order in orders]
            for name, _, _ in demands:
                found = [(row[name], order) for row, order in rows]
                least, greatest = min(found)[0], max(found)[0]
                expected = (least, greatest, min(order for total, order in found if total == least),
                            min(order for total, order in found if total == greatest))
                self.same(order_range(ranks, prices, name), expected)
                self.assertEqual(dict(order_totals(ranks, prices, expected[3]))[name], greatest)

    def test_five_parcels(self):
        lots = [("a", "b", "c", "d", "e"), ("a",), ("b", "c"), ("d", "e")]
        ranks = RankList(*[Claim(name, "ann", 3, lot) for name, lot in zip("pqrs", lots)])
        prices = {parcel: 3 for parcel in "abcde"}
        self.same(order_range(ranks, prices, "q"), (0, 3, ["a", "b", "c", "d", "e"], ["b", "a", "c", "d", "e"]))
        self.same(order_range(ranks, prices, "p"), (3, 3, ["a", "b", "c", "d", "e"], ["a", "b", "c", "d", "e"]))

    def test_errors_in_their_order(self):
        wide = RankList(Claim("one", "ann", 1, ("a", "b", "c")), Claim("two", "bob", 1, ("d", "e", "f")),
                        Claim("held", None, 1, ("a",)))
        for value in any_values() + ["ann", "a", "four"]:
            for ranks in (RANKS, wide, RankList()):
                self.fails(UnknownClaim, lambda: order_range(ranks, PRICES, value), value)
        for ranks in (RANKS, wide, RankList(Claim("held", None, 9, ("a", "c")))):
            self.fails(Reserved, lambda: order_range(ranks, PRICES, "held"), "held")
        for name in ("one", "two"):
            self.fails(TooMany, lambda: order_range(wide, PRICES, name), 5)
            self.fails(TooMany, lambda: order_range(wide, {}, name), 5)
        # A reserved claim has no demand, so its parcels do not count.
        free = RankList(Claim("one", "ann", 1, ("a", "b", "c", "d", "e")), Claim("held", None, 1, ("f", "g")))
        self.same(order_range(free, {"c": 1}, "one")[:2], (1, 1))

    def test_prices_that_are_wrong(self):
        self.fails_by_prices(lambda prices: order_range(RANKS, prices, "one"))
        self.fails_by_prices(lambda prices: order_range(RANKS, prices, "held"))
        self.fails_by_prices(lambda prices: order_range(RankList(), prices, None))

    def test_what_is_returned_is_new(self):
        found = order_range(RANKS, PRICES, "one")
        found[2].clear()
        self.same(found[3], ["a", "b"])
        self.same(order_range(RANKS, PRICES, "one"), (3, 3, ["a", "b"], ["a", "b"]))


if __name__ == "__main__":
    unittest.main()
