"""Cuts, their values, least cuts, the smallest and the largest one: [24]."""

import random
import unittest

from deedranks.cuts import cut_value, is_cut, largest_cut, smallest_cut
from deedranks.errors import InvalidCut
from deedranks.flows import greatest_sum
from support import Case, all_cuts, any_values, least_cuts, plain_value, random_cases

DEMANDS = [("one", 5, ("a", "b")), ("two", 3, ("b",)), ("a", 4, ("a", "c"))]
PRICES = {"c": 2, "a": 4, "b": 6, "z": 1}


class Cuts(Case):
    def test_what_is_a_cut(self):
        for names in all_cuts(DEMANDS):
            self.assertIs(is_cut(DEMANDS, names), True)
            self.assertIs(is_cut(tuple(DEMANDS), tuple(names)), True)
        self.assertIs(is_cut(value=["two", "a"], demands=DEMANDS), True)
        self.assertIs(is_cut([], []), True)
        for names in (["two", "one"], ["one", "one"], ["one", "two", "two"], ["one", "a", "two"], ["three"], ["b"],
                      ["one", "b"], [None], ["one", None], "a", "", {"one": 1}, {}, [["one"]], [("one",)], (("one",),)):
            self.assertIs(is_cut(DEMANDS, names), False)
        self.assertIs(is_cut([], ["one"]), False)

    def test_values_of_any_kind(self):
        for value in any_values():
            right = value in ([], (), ["a"])
            self.assertIs(is_cut(DEMANDS, value), right)
            self.assertIs(is_cut(DEMANDS, ["one", value]), False)
            if not right:
                self.fails(InvalidCut, lambda: cut_value(DEMANDS, PRICES, value))
            self.fails(InvalidCut, lambda: cut_value(DEMANDS, PRICES, [value, "a"], parcels=[]))
        self.fails(InvalidCut, lambda: cut_value(DEMANDS, PRICES, ["two", "one"]))
        self.fails(InvalidCut, lambda: cut_value(DEMANDS, PRICES, ["one", "one"], parcels=["a"]))

    def test_values(self):
        self.same([cut_value(DEMANDS, PRICES, names) for names in ([], ["one"], ("two",), ["one", "two", "a"])],
                  [12, 17, 15, 12])
        self.same(cut_value(DEMANDS, PRICES, ["one", "a"], parcels=["c", "z", "c", "b"]), 3 + 8)
        self.same(cut_value(DEMANDS, PRICES, ["one", "a"], parcels=[]), 3)
        self.same(cut_value(parcels=("a",), names=["a"], prices=PRICES, demands=DEMANDS), 12)
        self.same(cut_value(DEMANDS, {}, ["one", "two", "a"]), 0)
        self.same(cut_value([], {"a": 5}, []), 0)
        for rng, ranks, prices in random_cases("values", 80):
            demands = ranks.demands()
            for parcels in (None, [], ["b", "a", "b", "zz"], tuple(rng.sample("abcde", 3))):
                for cut in all_cuts(demands):
                    self.same(cut_value(demands, prices, cut, parcels=parcels),
                              plain_value(demands, prices, cut, parcels))
                    self.assertGreaterEqual(cut_value(demands, prices, cut, parcels=parcels),
                                            greatest_sum(demands, prices, parcels=parcels))


class LeastCuts(Case):
    def test_against_all_least_cuts(self):
        apart = 0
        for rng, ranks, prices in random_cases("least", 400):
            demands = ranks.demands()
            for parcels in (None, [], rng.sample("abcde", 2), ["a", "zz", "c", "a"]):
                least = least_cuts(demands, prices, parcels)
                smallest = [name for name, _, _ in demands if all(name in cut for cut in least)]
                largest = [name for name, _, _ in demands if any(name in cut for cut in least)]
                self.assertTrue(smallest in least and largest in least)
                self.same(smallest_cut(demands, prices, parcels=parcels), smallest)
                self.same(largest_cut(demands, prices, parcels=parcels), largest)
                apart += smallest != largest
        self.assertGreater(apart, 40)

    def test_some(self):
        demands = [("one", 1, ("a",)), ("two", 1, ("a",)), ("three", 1, ("b",)), ("four", 2, ("c",))]
        prices = {"b": 1, "a": 1, "c": 1}
        self.same([smallest_cut(demands, prices), largest_cut(demands, prices)],
                  [["one", "two", "four"], ["one", "two", "three", "four"]])
        self.same(smallest_cut(prices={"b": 1}, demands=tuple(demands), parcels=("a", "c")),
                  ["one", "two", "three", "four"])
        self.same([smallest_cut(demands, {"a": 9, "b": 9, "c": 9}), largest_cut(demands, {"a": 9, "b": 9, "c": 9})],
                  [[], []])
        self.same([smallest_cut([], prices), largest_cut([], prices, parcels=["a"])], [[], []])
        self.same([smallest_cut(demands, {}), largest_cut(demands, {})], [["one", "two", "three", "four"]] * 2)

    def test_the_order_of_keys_means_nothing(self):
        for rng, ranks, prices in random_cases("keys", 60):
            demands = ranks.demands()
            turned = {name: prices[name] for name in rng.sample(sorted(prices), len(prices))}
            self.same([smallest_cut(demands, turned), largest_cut(tuple(demands), turned)],
                      [smallest_cut(demands, prices), largest_cut(demands, prices)])

    def test_24_demands(self):
        rng = random.Random("cuts")
        parcels = [one + two for one in "abcdef" for two in "ghijklmnop"]
        for most in (5, 10 ** 12, 10 ** 30):
            demands = [(name, rng.randint(1, most), tuple(sorted(rng.sample(parcels, 12)))) for name in "zyxwvutsrqpo"
                       "nmlkjihgfedc"]
            prices = {parcel: rng.randint(0, most) for parcel in parcels[::-1]}
            for some in (None, parcels[7:30], parcels[:9]):
                greatest = greatest_sum(demands, prices, parcels=some)
                for cut in (smallest_cut(demands, prices, parcels=some), largest_cut(demands, prices, parcels=some)):
                    self.assertIs(is_cut(demands, cut), True)
                    self.assertEqual(cut_value(demands, prices, cut, parcels=some), greatest)

    def test_what_is_passed_stays(self):
        demands, prices, names, parcels = list(DEMANDS), dict(PRICES), ["one"], ["b", "a", "b"]
        cut_value(demands, prices, names, parcels=parcels)
        smallest_cut(demands, prices, parcels=parcels).clear()
        largest_cut(demands, prices, parcels=parcels).clear()
        is_cut(demands, names)
        self.same([demands, prices, names, parcels], [DEMANDS, PRICES, ["one"], ["b", "a", "b"]])


if __name__ == "__main__":
    unittest.main()
