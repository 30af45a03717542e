"""Coins and layers: [32]."""

import unittest

from deedranks.claims import Claim
from deedranks.errors import InvalidName, InvalidNumber, InvalidPrices, Reserved, UnknownClaim
from deedranks.layers import coin_owner, layers, least_price
from deedranks.ranks import RankList
from deedranks.totals import totals
from support import Case, any_values, random_cases

RANKS = RankList(Claim("one", "ann", 3, ("a", "b")), Claim("held", None, 9, ("a", "b")), Claim("two", "bob", 2, ("a",)),
                 Claim("three", "cyd", 4, ("a", "b")))


class Layers(Case):
    def test_some(self):
        self.same(list(layers(RANKS, {"b": 2}, "a")), [("one", 0, 1), ("two", 1, 3), ("three", 3, 7)])
        self.same(list(layers(prices={}, parcel="b", ranks=RANKS)), [("one", 0, 3), ("three", 3, 7)])
        self.same(list(layers(RANKS, {"b": 10 ** 40}, "a")), [("two", 0, 2)])
        self.same([list(layers(RANKS, {"b": 2}, "z")), list(layers(RankList(), {}, "a"))], [[], []])
        self.same([coin_owner(RANKS, {"b": 2}, "a", coin) for coin in (0, 1, 2, 3, 6, 7, 10 ** 40)],
                  ["one", "two", "two", "three", "three", "", ""])
        self.same([coin_owner(coin=0, parcel="z", prices={"b": 2}, ranks=RANKS), coin_owner(RankList(), {}, "a", 0)],
                  ["", ""])
        self.same([least_price(RANKS, {"b": 2}, "a", "three", wanted) for wanted in (-3, 0, 1, 2, 4, 5, 10 ** 40)],
                  [0, 0, 4, 5, 7, None, None])
        self.same(least_price(wanted=3, name="one", parcel="a", prices={"b": 2}, ranks=RANKS), 1)
        self.same([least_price(RANKS, {"b": 2}, "a", "one", 2), least_price(RANKS, {"b": 2}, "z", "one", 2),
                   least_price(RANKS, {"b": 2}, "z", "one", 3)], [0, 0, None])

    def test_against_totals_at_each_price(self):
        layered = 0
        for rng, ranks, prices in random_cases("layers", 80):
            for parcel in ("a", rng.choice("bcde"), "zz"):
                found = list(layers(ranks, prices, parcel))
                rows = [dict(totals(ranks, {**prices, parcel: price})) for price in range(34)]
                for coin in range(33):
                    rising = [name for name in rows[0] if rows[coin + 1][name] > rows[coin][name]]
                    owner = coin_owner(ranks, prices, parcel, coin)
                    self.assertEqual(rising, [owner] if owner else [])
                    self.assertEqual([name for name, low, high in found if low <= coin < high], rising)
                self.check_form(ranks, found)
                for claim in ranks:
                    if not claim.reserved:
                        self.check_least_prices(ranks, prices, parcel, claim.name, rows)
                layered += len(found) > 1
        self.assertGreater(layered, 20)

    def check_form(self, ranks, found):
        """The layers are triples by ranks, none is empty, and each one begins where the one ahead ends."""
        self.assertEqual([name for name in ranks.names() if name in dict.fromkeys(row[0] for row in found)],
                         [row[0] for row in found])
        end = 0
        for row in found:
            self.assertIs(row.__class__, tuple)
            name, low, high = row
            self.assertEqual(low, end)
            self.assertGreater(high, low)
            end = high

    def check_least_prices(self, ranks, prices, parcel, name, rows):
        for wanted in range(-1, 9):
            enough = [price for price, row in enumerate(rows) if row[name] >= wanted]
            self.same(least_price(ranks, prices, parcel, name, wanted), enough[0] if enough else None)

    def test_the_price_of_the_parcel_itself_means_nothing(self):
        for rng, ranks, prices in random_cases("itself", 60):
            for price in (0, 1, 5, 10 ** 12):
                others = {**prices, "a": price}
                names = rng.sample(sorted(prices), len(prices))
                without = {name: prices[name] for name in names if name != "a"}
                self.same(list(layers(ranks, others, "a")), list(layers(ranks, without, "a")))
                for claim in ranks:
                    if not claim.reserved:
                        self.same([least_price(ranks, others, "a", claim.name, wanted) for wanted in range(6)],
                                  [least_price(ranks, without, "a", claim.name, wanted) for wanted in range(6)])
                self.same([coin_owner(ranks, others, "a", coin) for coin in range(9)],
                          [coin_owner(ranks, without, "a", coin) for coin in range(9)])

    def test_great_amounts(self):
        great = 10 ** 40
        ranks = RankList(Claim("one", "ann", great, ("a", "b")), Claim("two", "bob", 10 ** 12, ("a",)))
        self.same(list(layers(ranks, {"b": great - 1, "a": 5}, "a")), [("one", 0, 1), ("two", 1, 10 ** 12 + 1)])
        self.same(list(layers(ranks, {}, "a")), [("one", 0, great), ("two", great, great + 10 ** 12)])
        self.same([coin_owner(ranks, {}, "a", great - 1), coin_owner(ranks, {}, "a", great)], ["one", "two"])
        self.same(least_price(ranks, {"b": 7}, "a", "two", 10 ** 12), great - 7 + 10 ** 12)

    def test_it_is_a_generator(self):
        calls = layers(RANKS, {"b": 2}, "a")
        self.same(next(calls), ("one", 0, 1))
        self.assertEqual(calls.__class__.__name__, "generator")
        wrong = layers(RANKS, 5, 5)
        self.fails(InvalidPrices, lambda: next(wrong), None)
        self.fails(InvalidName, lambda: next(layers(RANKS, {}, 5)), 5)


class Wrong(Case):
    def test_prices_first(self):
        for ranks in (RankList(), RANKS):
            self.fails_by_prices(lambda prices: list(layers(ranks, prices, 5)))
            self.fails_by_prices(lambda prices: coin_owner(ranks, prices, 5, -1))
            self.fails_by_prices(lambda prices: least_price(ranks, prices, 5, 5, None))

    def test_names_of_parcels(self):
        for value in any_values():
            for ranks in (RankList(), RANKS):
                self.fails(InvalidName, lambda: list(layers(ranks, {}, value)), value)
                self.fails(InvalidName, lambda: coin_owner(ranks, {}, value, value), value)
                self.fails(InvalidName, lambda: coin_owner(ranks, {}, value, 0), value)
                self.fails(InvalidName, lambda: least_price(ranks, {}, value, value, value), value)
                self.fails(InvalidName, lambda: least_price(ranks, {}, value, "held", 1), value)

    def test_coins(self):
        for value in any_values():
            if isinstance(value, int) and not isinstance(value, bool) and value >= 0:
                self.assertIn(coin_owner(RANKS, {}, "a", value), ("one", ""))
            else:
                self.fails(InvalidNumber, lambda: coin_owner(RANKS, {}, "a", value), value)
                self.fails(InvalidNumber, lambda: coin_owner(RankList(), {}, "zz", value), value)

    def test_least_prices(self):
        for value in any_values() + ["four", "cyd"]:
            for wanted in (1, None, True):
                self.fails(UnknownClaim, lambda: least_price(RANKS, {}, "a", value, wanted), value)
                self.fails(UnknownClaim, lambda: least_price(RankList(), {}, "a", value, wanted), value)
            if not isinstance(value, int) or isinstance(value, bool):
                self.fails(Reserved, lambda: least_price(RANKS, {}, "a", "held", value), "held")
                for name in ("one", "two", "three"):
                    self.fails(InvalidNumber, lambda: least_price(RANKS, {}, "a", name, value), value)
        self.fails(Reserved, lambda: least_price(RANKS, {}, "a", "held", 1), "held")

    def test_what_is_passed_stays(self):
        prices = {"c": 1, "b": 2}
        list(layers(RANKS, prices, "a"))
        coin_owner(RANKS, prices, "a", 3)
        least_price(RANKS, prices, "a", "one", 3)
        self.assertEqual(list(prices.items()), [("c", 1), ("b", 2)])


if __name__ == "__main__":
    unittest.main()
