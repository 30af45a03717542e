"""Parcels that one person owns alone."""

import random
import unittest

from deedranks.owning import sole_left, sole_parcels
from deedranks.plats import Plat
from deedranks.rolls import Roll
from deedranks.shares import Share
from support import Case, plain_sum

PLAT = Plat([["a", "b", "c", "d"]])
OWNERS = {"a": "ann", "b": "ann", "c": "bob", "d": "ann"}


def roll_of(*deeds):
    roll = Roll(PLAT, OWNERS)
    for at, deed in enumerate(deeds):
        roll.do(at + 1, deed)
    return roll


def plain_left(ranks, prices, parcels):
    """The least and the greatest number that is left, by cuts alone."""
    demands = ranks.demands()
    others = [parcel for parcel in prices if parcel not in parcels]
    whole = sum(price for parcel, price in prices.items() if parcel in parcels)
    return (whole - plain_sum(demands, prices, parcels),
            whole - plain_sum(demands, prices) + plain_sum(demands, prices, others))


class Sole(Case):
    def test_parcels(self):
        roll = roll_of(("gift", ("a",), "ann", "bob", Share(1, 2)), ("gift", ("c",), "bob", "ann", Share(1)))
        self.same([sole_parcels(roll, "ann"), sole_parcels(roll, "bob"), sole_parcels(roll, "zz")],
                  [["b", "c", "d"], [], []])
        self.same(sole_parcels(person="bob", roll=Roll(PLAT, OWNERS)), ["c"])
        # One person may own a parcel in several stretches.
        roll = roll_of(("gift", ("c",), "bob", "ann", Share(1, 3)), ("gift", ("c",), "bob", "ann", Share(2, 3)))
        self.same(sole_parcels(roll, "ann"), ["a", "b", "c", "d"])

    def test_left(self):
        roll = roll_of(("charge", "one", "eve", 3, ("a", "c"), ("ann", "bob"), False))
        prices = {"a": 2, "c": 2, "b": 5, "zz": 100}
        self.same([sole_left(roll, prices, "ann"), sole_left(roll, prices, "bob")], [(5, 6), (0, 1)])
        self.same(sole_left(person="ann", prices={}, roll=roll), (0, 0))

    def test_no_parcels(self):
        roll = roll_of(("charge", "one", "eve", 3, ("a", "c"), ("ann", "bob"), False))
        self.same([sole_left(roll, {"a": 2, "c": 2}, "zz"), sole_left(roll, {}, "eve")], [(0, 0), (0, 0)])

    def test_against_plain_cuts(self):
        for at in range(60):
            rng = random.Random(f"owning {at}")
            deeds = []
            for name in "pqrst"[:rng.randint(0, 5)]:
                lot = tuple(sorted(rng.sample("abcd", rng.randint(1, 3))))
                by = ("ann", "bob", "cyd")
                deeds.append(rng.choice([("charge", name, "eve", rng.randint(1, 4), lot, by, False),
                                         ("reserve", name, rng.randint(1, 4), lot, 5, by, False),
                                         ("gift", lot[:1], rng.choice(["ann", "bob"]), "cyd", Share(1))]))
            roll = Roll(PLAT, OWNERS)
            for number, deed in enumerate(deeds, start=1):
                if deed[0] != "gift" or str(roll.titles().share_of(deed[1][0], deed[2])) == "1":
                    roll.do(number, deed)
            prices = {parcel: rng.randint(0, 4) for parcel in rng.sample("abcdz", rng.randint(0, 5))}
            for person in ("ann", "bob", "cyd", "eve"):
                sole = [parcel for parcel in "abcd" if str(roll.titles().share_of(parcel, person)) == "1"]
                self.same(sole_parcels(roll, person), sole)
                self.same(sole_left(roll, prices, person), plain_left(roll.ranks(), prices, sole))

    def test_prices_that_are_wrong(self):
        roll = roll_of(("charge", "one", "eve", 3, ("a", "c"), ("ann", "bob"), False))
        self.fails_by_prices(lambda prices: sole_left(roll, prices, "ann"))
        self.fails_by_prices(lambda prices: sole_left(roll, prices, "zz"))

    def test_what_is_returned_is_new(self):
        roll = roll_of()
        prices = {"b": 1, "a": 2}
        sole_parcels(roll, "ann").clear()
        sole_left(roll, prices, "ann")
        self.same([sole_parcels(roll, "ann"), list(prices)], [["a", "b", "d"], ["b", "a"]])


if __name__ == "__main__":
    unittest.main()
