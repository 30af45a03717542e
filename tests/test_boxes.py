"""Boxes, ranges and outlooks: [31]."""

import itertools
import unittest

from deedranks.boxes import Box, brings, outlook, pay_range, person_range
from deedranks.claims import Claim
from deedranks.errors import InvalidBounds, InvalidNumber, Reserved, UnknownClaim
from deedranks.ranks import RankList
from deedranks.totals import pays, totals
from support import Case, any_values, is_plain_price, random_cases

BOUNDS = {"c": (0, 10 ** 12), "a": (1, 3), "b": (2, 2)}
RANKS = RankList(Claim("one", "ann", 3, ("a", "b")), Claim("held", None, 9, ("a", "b")), Claim("two", "bob", 2, ("b",)),
                 Claim("three", "ann", 4, ("a",)))


def total_of(ranks, prices, name):
    return dict(totals(ranks, prices))[name]


def all_prices(box):
    """All prices of a small box, with all named parcels."""
    bounds = box.bounds()
    for row in itertools.product(*[range(low, high + 1) for low, high in bounds.values()]):
        yield dict(zip(bounds, row))


class Boxes(Case):
    def test_one(self):
        box = Box(bounds=BOUNDS)
        self.same(box.bounds(), {"a": (1, 3), "b": (2, 2), "c": (0, 10 ** 12)})
        self.same([box.low(), box.high()], [{"a": 1, "b": 2, "c": 0}, {"a": 3, "b": 2, "c": 10 ** 12}])
        self.same([len(box), repr(box), len(Box({})), repr(Box({})), repr(Box({"a": (0, 0)}))],
                  [3, "Box(3 parcels)", 0, "Box(0 parcels)", "Box(1 parcels)"])
        self.same([Box({}).bounds(), Box({}).low(), Box({}).high()], [{}, {}, {}])

    def test_equality(self):
        box = Box(BOUNDS)
        self.assertIs(box == Box(dict(sorted(BOUNDS.items()))), True)
        self.assertIs(box != Box(BOUNDS), False)
        for other in ({**BOUNDS, "a": (1, 4)}, {**BOUNDS, "d": (0, 0)}, {"a": (1, 3)}, {}):
            self.assertIs(box == Box(other), False)
        for value in any_values() + [BOUNDS]:
            self.assertIs(box == value, False)
            self.assertIs(value == box, False)

    def test_wrong_bounds(self):
        for value in any_values():
            if not isinstance(value, dict):
                self.fails(InvalidBounds, lambda: Box(value), None)
                self.fails(InvalidBounds, lambda: Box([value]), None)
            pair = isinstance(value, tuple) and len(value) == 2 and all(is_plain_price(price) for price in value)
            if not pair or value[0] > value[1]:
                self.fails(InvalidBounds, lambda: Box({"a": value}), "a")
                self.fails(InvalidBounds, lambda: Box({"b": (0, 0), "a": value, "A": 5}), "a")
            if not is_plain_price(value):
                self.fails(InvalidBounds, lambda: Box({"a": (value, 10 ** 50)}), "a")
                self.fails(InvalidBounds, lambda: Box({"a": (0, value)}), "a")
            if isinstance(value, (str, int, tuple)):
                try:
                    bounds = {"b": (0, 1), value: (0, 1), "a": 5}
                except TypeError:
                    continue
                self.fails(InvalidBounds, lambda: Box(bounds), value)
        for pair in ([0, 1], (1, 0), (0, 1, 2), (0,), (-1, 1), (0, True), (False, 1), ("0", 1), (None, None),
                     ((0, 1),)):
            self.fails(InvalidBounds, lambda: Box({"a": pair}), "a")
        self.fails(InvalidBounds, lambda: Box({"b": (2, 1), "a": (2, 1)}), "b")
        self.fails(InvalidBounds, lambda: Box({None: (0, 1)}), None)
        self.assertEqual(Box({"a": (0, 0), "b": (5, 5)}).low(), {"a": 0, "b": 5})

    def test_what_is_held(self):
        box = Box({"b": (2, 2), "a": (1, 3), "c": (0, 4)})
        for a, b, c in itertools.product(range(5), range(4), range(6)):
            held = 1 <= a <= 3 and b == 2 and c <= 4
            self.assertIs(box.holds({"c": c, "a": a, "b": b}), held)
            self.assertIs(box.holds(prices={"a": a, "b": b, "z": 0, "c": c}), held)
            self.assertIs(box.holds({"a": a, "b": b, "z": 1, "c": c}), False)
        self.assertIs(box.holds({"a": 1, "b": 2}), True)
        self.assertIs(box.holds({"a": 1, "c": 2}), False)
        self.assertIs(box.holds({}), False)
        self.same([Box({"a": (0, 0)}).holds({}), Box({"a": (1, 5)}).holds({}), Box({"a": (1, 5)}).holds({"a": 5})],
                  [True, False, True])
        self.same([Box({}).holds({}), Box({}).holds({"a": 0}), Box({}).holds({"a": 1}), Box({"a": (0, 5)}).holds({})],
                  [True, True, False, True])
        self.fails_by_prices(box.holds)
        self.fails_by_prices(Box({}).holds)

    def test_dicts_are_copied_and_those_told_are_new(self):
        bounds = dict(BOUNDS)
        box = Box(bounds)
        bounds["a"] = (7, 8)
        del bounds["b"]
        self.assertEqual(box, Box(BOUNDS))
        for call in (box.bounds, box.low, box.high):
            call().clear()
        self.assertEqual(box, Box(BOUNDS))
        prices = {"b": 2, "a": 1}
        box.holds(prices)
        self.assertEqual(list(prices.items()), [("b", 2), ("a", 1)])


class Ranges(Case):
    def test_some(self):
        box = Box({"b": (0, 2), "a": (1, 4)})
        self.same([pay_range(RANKS, box, "one"), pay_range(RANKS, box, "two"), pay_range(RANKS, box, name="three")],
                  [(1, 3), (0, 2), (0, 1)])
        self.same([person_range(RANKS, box, "ann"), person_range(RANKS, box, "bob"), person_range(RANKS, box, "cyd")],
                  [(1, 4), (0, 2), (0, 0)])
        self.same(person_range(person="ann", box=Box({}), ranks=RankList()), (0, 0))
        self.same([outlook(RANKS, box, "one", number) for number in (-5, 0, 1, 2, 3, 4, 10 ** 12)],
                  ["surely", "surely", "surely", "perhaps", "perhaps", "never", "never"])
        self.same(outlook(wanted=1, name="two", box=box, ranks=RANKS), "perhaps")
        self.same([brings(RANKS, box, "one", 0), brings(RANKS, box, "one", 4), brings(RANKS, box, "two", -1)],
                  [None, None, None])
        self.same([brings(RANKS, Box({}), "one", 0), brings(RANKS, Box({}), "one", 1)], [{}, None])
        self.same(brings(wanted=1, name="one", box=box, ranks=RANKS), {"a": 1, "b": 0})

    def test_against_all_prices_of_small_boxes(self):
        wide = 0
        for rng, ranks, prices in random_cases("boxes", 150):
            named = rng.sample([*"abcde"[:3], "zz"], rng.randint(0, 3))
            bounds = {}
            for parcel in named:
                low = rng.randint(0, 2)
                bounds[parcel] = (low, low + rng.randint(0, 3))
            box = Box(bounds)
            every = list(all_prices(box))
            for claim in ranks:
                if claim.reserved:
                    continue
                found = {total_of(ranks, row, claim.name) for row in every}
                self.assertEqual(found, set(range(min(found), max(found) + 1)))
                self.same(pay_range(ranks, box, claim.name), (min(found), max(found)))
                wide += len(found) > 1
                for wanted in range(min(found) - 2, max(found) + 3):
                    told = "surely" if min(found) >= wanted else "perhaps" if max(found) >= wanted else "never"
                    self.same(outlook(ranks, box, claim.name, wanted), told)
                    self.check_brings(ranks, box, claim.name, wanted, wanted in found)
            for person in ("ann", "bob", "cyd", "dan", "eve"):
                found = {pays(ranks, row).get(person, 0) for row in every}
                self.assertEqual(found, set(range(min(found), max(found) + 1)))
                self.same(person_range(ranks, box, person), (min(found), max(found)))
        self.assertGreater(wide, 30)

    def check_brings(self, ranks, box, name, wanted, there):
        prices = brings(ranks, box, name, wanted)
        if not there:
            self.assertIsNone(prices)
            return
        self.assertEqual(list(prices), list(box.bounds()))
        self.assertIs(box.holds(prices), True)
        self.assertEqual(total_of(ranks, prices, name), wanted)
        turned = Box(dict(sorted(box.bounds().items(), reverse=True)))
        self.same(brings(ranks, turned, name, wanted), prices)

    def test_great_prices(self):
        ranks = RankList(Claim("one", "ann", 10 ** 12, ("a", "b")), Claim("two", "ann", 10 ** 40, ("b", "c")))
        box = Box({"a": (5, 10 ** 11), "b": (7, 10 ** 12 - 3), "c": (0, 10 ** 41)})
        for name in ("one", "two"):
            low, high = pay_range(ranks, box, name)
            for wanted in (low, low + 1, (low + high) // 2, (low + high) // 3, high - 1, high):
                self.check_brings(ranks, box, name, wanted, True)
            self.assertEqual([brings(ranks, box, name, low - 1), brings(ranks, box, name, high + 1)], [None, None])

    def test_errors_in_their_order(self):
        box = Box({"b": (0, 2), "a": (1, 4)})
        calls = (lambda name, wanted: pay_range(RANKS, box, name),
                 lambda name, wanted: outlook(RANKS, box, name, wanted),
                 lambda name, wanted: brings(RANKS, box, name, wanted))
        for value in any_values() + ["ann", "a", "four"]:
            for call in calls:
                for wanted in (1, "x", True):
                    self.fails(UnknownClaim, lambda: call(value, wanted), value)
            for call in calls[1:]:
                if not isinstance(value, int) or isinstance(value, bool):
                    self.fails(Reserved, lambda: call("held", value), "held")
                    for name in ("one", "two", "three"):
                        self.fails(InvalidNumber, lambda: call(name, value), value)
                else:
                    call("one", value)
        for call in calls:
            self.fails(Reserved, lambda: call("held", 1), "held")

    def test_what_is_returned_is_new(self):
        box = Box({"b": (0, 2), "a": (1, 4)})
        brings(RANKS, box, "one", 2).clear()
        self.assertEqual(box, Box({"b": (0, 2), "a": (1, 4)}))
        self.assertEqual(len(brings(RANKS, box, "one", 2)), 2)


if __name__ == "__main__":
    unittest.main()
