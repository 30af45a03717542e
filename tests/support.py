"""What the tests share: values of any kind, plain models of plans, cuts and sales, deeds, a check of errors."""

import itertools
import random
import unittest

from deedranks.claims import Claim
from deedranks.errors import Behind, InsideLot, InvalidAmount, InvalidDemand, InvalidName, InvalidPrices, NotReserved
from deedranks.entries import Entry
from deedranks.errors import OutsideLot, Reserved, TooMany, Unequal, Unlike
from deedranks.plats import Plat
from deedranks.rankdeeds import changed
from deedranks.ranks import RankList
from deedranks.sales import FairSale
from deedranks.shares import Share
from deedranks.titles import Titles
from deedranks.ways import Ways


def any_values():
    """Values of any kind; none of them is a name, a lot, a cell, or a number from 2 on below 10 ** 12."""
    plat = Plat([["a", "b"]], road=[(0, 0)])
    return [
        None, True, False, 0, 1, -1, -5, 10 ** 12, -10 ** 40, "", " ", "A", "Ann", "abcdefg", "a b", "a1", "a\n", "*",
        "a*", "-", "1", "1/2", (), [], {}, ("a", 1), (True, 0), (0, True), (0,), (0, 0, 0), (0, 12), (-1, 0),
        ("b", "a"), ("a", "a"), ["a"], ["a", "b"], [0, 0], ((0, 0),), [(0, 0)], {"a": 1}, {"a": "ann"}, {(0, 0): "a"},
        [[]], [{}], ({},), ([], []), (None, None), [None], ((((("a",),),),),), [[[[["a"]]]]], {1: {2: {3: {4: [5]}}}},
        Share(1, 2), Share(0), plat, Ways(plat, []), Titles({"a": "ann"}), Claim("one", "ann", 1, ("a",)), RankList(),
        RankList(Claim("a", None, 1, ("a",))), InvalidName("a"), (Share(1), Share(1)), (plat, plat), [Share(1, 2)],
        FairSale(RankList()), Entry(2, 1, 1, ("merge", "a")), [Entry(2, 1, 1, ("merge", "a"))],
    ]


def good_deeds():
    """Deeds of each word, the first one of each word as plain as can be."""
    return [
        ("sale", ("a", "b"), "ann", "bob", Share(1, 2), False), ("sale", ("a",), "ann", "a", Share(1), True),
        ("gift", ("a",), "ann", "bob", Share(1, 3)), ("gift", tuple("abcdefghijkl"), "bob", "ann", Share(59, 60)),
        ("heirs", "ann", (("bob", 1),)), ("heirs", "ann", (("eve", 9), ("dan", 1), ("cyd", 9), ("bob", 4))),
        ("void", 1), ("void", 998), ("uphold", 2), ("divide", "a", ((0, 0),), "c"),
        ("divide", "a", ((11, 11), (0, 3), (2, 10)), "abcdef"), ("unite", "a", "b"),
        ("grant", "a", "b", ("ann", "bob"), False), ("grant", "b", "a", ("ann",), True), ("waive", "a", "b"),
        ("charge", "one", "cyd", 100, ("a", "b"), ("ann",), False),
        ("charge", "a", "a", 10 ** 12 - 1, ("a",), ("a",), True),
        ("reserve", "two", 1, ("a",), 9999, ("ann", "bob"), False), ("reserve", "two", 7, ("a", "b"), 0, ("ann",), True),
        ("fill", "one", "ann"), ("repay", "one", 10 ** 12 - 1), ("repay", "one", 1), ("assign", "one", "one"),
        ("part", "one", 5, "two"), ("part", "one", 10 ** 12 - 1, "two"), ("merge", "one"), ("release", "one", "one"),
        ("extend", "one", "a", ("ann", "bob"), False), ("extend", "one", "b", ("ann",), True),
        ("yield", "one", "two"), ("trade", "one", "two"), ("strike", 3), ("instead", 4, ("gift", ("a",), "ann", "bob",
                                                                                        Share(1))),
        ("instead", 999, ("void", 998)), ("instead", 3, ("uphold", 2)), ("instead", 7, ("merge", "one")),
    ]


def plain_sale(demands, prices, order):
    """What each demand takes from each parcel if the parcels are sold in this order, by pairs."""
    taken = {}
    for parcel in order:
        rest = prices.get(parcel, 0)
        for name, amount, lot in demands:
            if parcel in lot:
                many = min(rest, amount - sum(number for key, number in taken.items() if key[0] == name))
                rest -= many
                if many:
                    taken[(name, parcel)] = many
    return taken


def wrong_prices():
    """Values of any kind that are no prices, each with the key of its error."""
    values = [value for value in any_values() if not isinstance(value, dict)]
    cases = [(value, None) for value in values] + [({"a": value}, "a") for value in values if not is_plain_price(value)]
    return cases + [({"b": 1, "A": 2, "a": -1}, "A"), ({"a": -1, "A": 2}, "a"), ({"a": 1, 1: 2, "": 3}, 1),
                    ({"a": 1, None: 1}, None), ({"a": {}, "b": -1}, "a"), ({(0, 0): "a"}, (0, 0)),
                    ({"a": 1, "b": True}, "b"), ({True: 1}, True)]


def is_plain_price(value):
    return isinstance(value, int) and value is not True and value is not False and value >= 0


def wrong_demands():
    """Values of any kind that are no demands, each with the place of its first wrong item."""
    one = ("one", 1, ("a",))
    values = any_values()
    cases = [(value, -1) for value in values if not isinstance(value, (list, tuple))]
    cases += [([one, value], 1) for value in values] + [((value, one), 0) for value in values]
    return cases + [([one, one], 1), ([one, ("two", 1, ("a",)), ("one", 2, ("b",)), 5], 2),
                    ([("one", 0, ("a",)), one], 0)]


def random_claims(rng, many, parcels, most):
    """A rank list of claims with small amounts, some of them reserved."""
    names = rng.sample("abcdefghijklmnopqrstuvwx", many)
    rows = []
    for name in names:
        lot = tuple(sorted(rng.sample(parcels, rng.randint(1, min(len(parcels), 4)))))
        rows.append(Claim(name, rng.choice([None, "ann", "bob", "cyd", "dan", "eve"]), rng.randint(1, most), lot))
    return RankList(*rows)


def random_prices(rng, parcels, most):
    """Prices of some of the parcels and of one in no lot, in any order."""
    named = rng.sample([*parcels, "zz"], rng.choice([rng.randint(0, len(parcels)), len(parcels) + 1]))
    return {parcel: rng.randint(0, most) for parcel in named}


def random_cases(seed, many):
    """Triples of a number source, a rank list and prices."""
    for at in range(many):
        rng = random.Random(f"{seed} {at}")
        parcels = list("abcde"[:rng.randint(1, 5)])
        most = rng.choice([2, 4, 6])
        yield rng, random_claims(rng, rng.randint(0, 5), parcels, most), random_prices(rng, parcels, most + 1)


def all_cuts(demands):
    """All lists of names of demands in their order."""
    names = [name for name, _, _ in demands]
    return [list(cut) for many in range(len(names) + 1) for cut in itertools.combinations(names, many)]


def plain_value(demands, prices, cut, parcels=None):
    """The value of a cut."""
    value = sum(amount for name, amount, _ in demands if name not in cut)
    touched = set(parcel for name, _, lot in demands if name in cut for parcel in lot)
    return value + sum(prices.get(parcel, 0) for parcel in touched if parcels is None or parcel in parcels)


def least_cuts(demands, prices, parcels=None):
    """All least cuts."""
    values = [(plain_value(demands, prices, cut, parcels), cut) for cut in all_cuts(demands)]
    return [cut for value, cut in values if value == min(values)[0]]


def plain_sum(demands, prices, parcels=None):
    """The greatest sum, by all cuts."""
    return min(plain_value(demands, prices, cut, parcels) for cut in all_cuts(demands))


def plain_totals(ranks, prices):
    """The pairs (name, total) of all claims, by cuts alone."""
    rows, ahead = [], []
    for claim in ranks:
        before = plain_sum(ahead, prices)
        if claim.owner is not None:
            ahead = ahead + [(claim.name, claim.amount, claim.lot)]
        rows.append((claim.name, plain_sum(ahead, prices) - before))
    return rows


def all_plans(demands, prices):
    """All plans of few demands with small numbers."""
    pairs = [(name, parcel) for name, _, lot in demands for parcel in lot]
    ranges = [range(prices.get(parcel, 0) + 1) for _, parcel in pairs]
    for numbers in itertools.product(*ranges):
        plan = {pair: number for pair, number in zip(pairs, numbers) if number > 0}
        over = any(sum(plan.get((name, parcel), 0) for parcel in lot) > amount for name, amount, lot in demands)
        if not over and all(sum(n for key, n in plan.items() if key[1] == parcel) <= price
                            for parcel, price in prices.items()):
            yield plan


def row_of(demands, plan):
    """The row of totals of a plan."""
    return [sum(number for key, number in plan.items() if key[0] == name) for name, _, _ in demands]


def random_deed(rng, ranks):
    """A rank deed that can often be done to a list."""
    names = ranks.names()

    def pick():
        return rng.choice(names)

    new = Claim("new", rng.choice([None, "ann", "bob", "fay"]), rng.randint(1, 2), rng.choice([("p",), ("p", "q")]))
    return rng.choice([
        ("enter", new, rng.randint(1, len(names) + 1)),
        ("cancel", pick()), ("repay", pick(), rng.randint(1, 2)), ("assign", pick(), rng.choice(["ann", "bob", "fay"])),
        ("fill", pick(), rng.choice(["ann", "bob", "fay"])), ("part", pick(), 1, "new"), ("merge", pick()),
        ("release", pick(), rng.choice("pqr")), ("extend", pick(), rng.choice("pqr")), ("yield", pick(), pick()),
        ("trade", pick(), pick()),
    ])


def random_changes(seed, many):
    """Triples of a rank list, a rank deed that can be done to it, and the list behind it."""
    for at in range(many):
        rng = random.Random(f"{seed} {at}")
        rows = [Claim(name, rng.choice([None, "ann", "ann", "bob", "cyd"]), rng.randint(1, 2),
                      tuple(sorted(rng.sample("pqr", rng.randint(1, 2))))) for name in ("x", "y", "z", "w")]
        ranks = RankList(*rows)
        deed = random_deed(rng, ranks)
        try:
            yield ranks, deed, changed(ranks, deed)
        except (Behind, InsideLot, InvalidAmount, NotReserved, OutsideLot, Reserved, Unequal, Unlike):
            pass


class Case(unittest.TestCase):
    """A test case that also checks the attributes of errors."""

    def fails(self, error, call, *told):
        """call raises error with told as its attributes, in the order of the constructor, and its code."""
        with self.assertRaises(error) as caught:
            call()
        self.assertIs(caught.exception.__class__, error)
        expected = vars(error(*told))
        self.assertEqual(len(told), len(expected) - 1)
        found = vars(caught.exception)
        self.assertEqual(list(found), list(expected))
        for name in expected:
            self.same(found[name], expected[name])

    def same(self, found, expected):
        """Equal, and of the same class all the way down."""
        self.assertIs(found.__class__, expected.__class__)
        self.assertEqual(found, expected)
        if isinstance(expected, (list, tuple)):
            for left, right in zip(found, expected):
                self.same(left, right)
        if isinstance(expected, dict):
            self.assertEqual(list(found), list(expected))
            for key in expected:
                self.same(found[key], expected[key])

    def is_plain_plan(self, demands, prices, plan):
        """plan is a dict with its keys in order that is a plan, looked at item by item."""
        self.assertIs(plan.__class__, dict)
        self.assertEqual(list(plan), sorted(plan))
        lots = {name: lot for name, _, lot in demands}
        for (name, parcel), number in plan.items():
            self.assertIn(parcel, lots[name])
            self.assertIs(number.__class__, int)
            self.assertGreater(number, 0)
        for name, amount, _ in demands:
            self.assertLessEqual(sum(plan[pair] for pair in plan if pair[0] == name), amount)
        for parcel in {pair[1] for pair in plan}:
            self.assertLessEqual(sum(plan[pair] for pair in plan if pair[1] == parcel), prices.get(parcel, 0))

    def fails_by_demands(self, call):
        """call raises as check_demands for its argument."""
        for value, at in wrong_demands():
            self.fails(InvalidDemand, lambda: call(value), at)
        self.fails(TooMany, lambda: call([("one", 1, ("a",))] * 25), 24)

    def fails_by_prices(self, call):
        """call raises as check_prices for its argument."""
        for value, key in wrong_prices():
            self.fails(InvalidPrices, lambda: call(value), key)
