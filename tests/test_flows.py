"""Greatest sums and plans, [22], and movings, [23]."""

import itertools
import random
import unittest

from deedranks.errors import InvalidMoving, InvalidNumber, InvalidPlan
from deedranks.flows import find_moving, greatest_plan, greatest_sum, is_moving, moved, room
from deedranks.plans import plan_sum
from support import Case, any_values, plain_sum, random_cases

DEMANDS = [("one", 5, ("a", "b")), ("two", 3, ("b",)), ("a", 4, ("a", "c"))]
PRICES = {"c": 2, "a": 4, "b": 6, "z": 1}
# one has 4 of a, so a can get only 2 of c; along a, a, one, b two more can be moved.
STUCK = {("one", "a"): 4, ("a", "c"): 2}
LETTERS = "abcdefghijklmnopqrstuvwxyz"


def some_parcels(rng):
    """Names of parcels in any order, some doubled, some in no lot."""
    return [rng.choice(["a", "b", "c", "d", "e", "zz", "yy"]) for _ in range(rng.randint(0, 6))]


def some_plan(rng, demands, prices):
    """A plan that is seldom the greatest: numbers are given at random."""
    plan, lacks, left = {}, {name: amount for name, amount, _ in demands}, dict(prices)
    pairs = [(name, parcel) for name, _, lot in demands for parcel in lot]
    for name, parcel in rng.sample(pairs, len(pairs)):
        most = min(lacks[name], left.get(parcel, 0))
        number = rng.choice([0, most, rng.randint(0, most)])
        if number > 0:
            plan[(name, parcel)] = number
            lacks[name] -= number
            left[parcel] -= number
    return plan


def is_plain_moving(demands, prices, plan, names):
    """Whether a list of names is a moving, word by word."""
    if len(names) == 0 or len(names) % 2 == 1:
        return False
    table = {name: (amount, lot) for name, amount, lot in demands}
    heads, parcels = names[0::2], names[1::2]
    if len(set(heads)) < len(heads) or len(set(parcels)) < len(parcels) or not set(heads) <= set(table):
        return False
    if sum(plan[key] for key in plan if key[0] == names[0]) >= table[names[0]][0]:
        return False
    if any(parcel not in table[name][1] for name, parcel in zip(heads, parcels)):
        return False
    if any((name, parcel) not in plan for name, parcel in zip(heads[1:], parcels)):
        return False
    return prices.get(names[-1], 0) - sum(plan[key] for key in plan if key[1] == names[-1]) > 0


def all_movings(demands, prices, plan):
    """All movings, the shorter ones first."""
    found = []
    parcels = sorted({parcel for _, _, lot in demands for parcel in lot})
    for many in range(1, len(demands) + 1):
        for heads in itertools.permutations([name for name, _, _ in demands], many):
            for ends in itertools.permutations(parcels, many):
                names = [name for pair in zip(heads, ends) for name in pair]
                if is_plain_moving(demands, prices, plan, names):
                    found.append(names)
    return found


class Greatest(Case):
    def test_some(self):
        self.same(greatest_sum(DEMANDS, PRICES), 12)
        self.same(greatest_sum(DEMANDS, PRICES, parcels=["b"]), 6)
        self.same(greatest_sum(DEMANDS, PRICES, parcels=["z", "c", "c", "a"]), 6)
        self.same(greatest_sum(DEMANDS, PRICES, parcels=[]), 0)
        self.same(greatest_sum(DEMANDS, PRICES, parcels=()), 0)
        self.same(greatest_sum(DEMANDS, PRICES, parcels=None), 12)
        self.same(greatest_sum(prices=PRICES, demands=tuple(DEMANDS), parcels=("a", "b", "c")), 12)
        self.same([greatest_sum([], PRICES), greatest_sum(DEMANDS, {}), greatest_plan([], {})], [0, 0, {}])
        self.same(greatest_plan(prices=PRICES, demands=DEMANDS, parcels=["a"]), greatest_plan(DEMANDS, {"a": 4}))

    def test_against_all_cuts(self):
        for rng, ranks, prices in random_cases("sums", 300):
            demands = ranks.demands()
            for parcels in (None, [], some_parcels(rng), some_parcels(rng)):
                found = greatest_sum(demands, prices, parcels=parcels)
                self.same(found, plain_sum(demands, prices, parcels))
                plan = greatest_plan(demands, prices, parcels=parcels)
                self.is_plain_plan(demands, prices, plan)
                self.assertEqual(sum(plan.values()), found)
                if parcels is not None:
                    self.assertEqual([pair for pair in plan if pair[1] not in parcels], [])
                    others = rng.sample(parcels, len(parcels))
                    self.same(greatest_plan(demands, prices, parcels=tuple(others + others)), plan)

    def test_other_orders(self):
        for rng, ranks, prices in random_cases("orders", 100):
            demands = ranks.demands()
            found = greatest_plan(demands, prices)
            turned = {name: prices[name] for name in rng.sample(sorted(prices), len(prices))}
            self.same(greatest_plan(demands, turned), found)
            self.same(greatest_plan(tuple(demands), dict(sorted(prices.items()))), found)
            others = rng.sample(demands, len(demands))
            self.assertEqual(greatest_sum(others, turned), sum(found.values()))

    def test_24_demands_and_lots_of_twelve(self):
        rng = random.Random("many")
        for most in (9, 10 ** 12, 10 ** 40):
            parcels = [one + two for one in LETTERS[:6] for two in LETTERS[:10]]
            demands = [(name, rng.randint(1, most), tuple(sorted(rng.sample(parcels, 12)))) for name in LETTERS[:24]]
            prices = {parcel: rng.randint(0, most // 3) for parcel in parcels}
            plan = greatest_plan(demands, prices)
            self.is_plain_plan(demands, prices, plan)
            self.assertIsNone(find_moving(demands, prices, plan))
            self.assertEqual(greatest_sum(demands[::-1], prices), plan_sum(plan))
            self.same(greatest_plan(demands, prices), plan)

    def test_a_chain_of_24(self):
        # Each demand has to leave its first parcel for the next one as soon as the last demand comes.
        names = [LETTERS[at] + "x" for at in range(24)]
        demands = [(LETTERS[at], 7, (names[at], names[at + 1])) for at in range(23)] + [("x", 7, (names[0],))]
        prices = {name: 7 for name in names}
        plan = greatest_plan(demands, prices)
        self.is_plain_plan(demands, prices, plan)
        self.assertEqual(sum(plan.values()), 24 * 7)
        before = {(LETTERS[at], names[at]): 7 for at in range(23)}
        moving = find_moving(demands, prices, before)
        self.same(moving, ["x", "ax"] + [name for at in range(23) for name in (LETTERS[at], names[at + 1])])
        self.same(room(demands, prices, before, moving), 7)
        self.same(moved(demands, prices, before, moving, 7), plan)

    def test_great_numbers(self):
        demands = [("a", 10 ** 12 - 1, ("p", "q")), ("b", 10 ** 60, ("q", "r"))]
        self.same(greatest_sum(demands, {"p": 5, "q": 10 ** 12}), 10 ** 12 + 5)
        self.same(greatest_sum(demands, {"p": 10 ** 50, "r": 10 ** 61}), 10 ** 60 + 10 ** 12 - 1)
        self.same(greatest_sum(demands, {"q": 10 ** 70}), 10 ** 60 + 10 ** 12 - 1)


class Movings(Case):
    def test_one(self):
        # two gets from b alone, which has a rest.
        self.assertEqual(find_moving(DEMANDS, PRICES, STUCK), ["one", "b"])
        full = {**STUCK, ("two", "b"): 3, ("one", "b"): 1}
        self.same(find_moving(DEMANDS, PRICES, full), ["a", "a", "one", "b"])
        self.same(find_moving(demands=tuple(DEMANDS), prices=PRICES, plan=full), ["a", "a", "one", "b"])
        self.same(room(DEMANDS, PRICES, full, ["a", "a", "one", "b"]), 2)
        self.same(moved(DEMANDS, PRICES, full, ("a", "a", "one", "b"), 1),
                  {("a", "a"): 1, ("a", "c"): 2, ("one", "a"): 3, ("one", "b"): 2, ("two", "b"): 3})
        done = moved(many=2, names=["a", "a", "one", "b"], plan=full, prices=PRICES, demands=DEMANDS)
        self.same(done, {("a", "a"): 2, ("a", "c"): 2, ("one", "a"): 2, ("one", "b"): 3, ("two", "b"): 3})
        self.assertIsNone(find_moving(DEMANDS, PRICES, done))
        self.assertEqual(list(full), [("one", "a"), ("a", "c"), ("two", "b"), ("one", "b")])

    def test_against_all_movings(self):
        for rng, ranks, prices in random_cases("movings", 120):
            demands = ranks.demands()[:3]
            plan = some_plan(rng, demands, prices)
            found = find_moving(demands, prices, plan)
            every = all_movings(demands, prices, plan)
            if every == []:
                self.assertIsNone(found)
                self.assertEqual(sum(plan.values()), plain_sum(demands, prices))
                continue
            self.assertLess(sum(plan.values()), plain_sum(demands, prices))
            self.assertIs(found.__class__, list)
            self.assertIn(found, every)
            self.assertEqual(len(found), len(every[0]))
            self.same(find_moving(demands, dict(sorted(prices.items())), dict(sorted(plan.items()))), found)
            for names in every:
                self.assertIs(is_moving(demands, prices, plan, names), True)
                self.assertIs(is_moving(demands, prices, plan, tuple(names)), True)

    def test_lists_that_are_no_movings(self):
        words = ["one", "two", "a", "b", "c", "z"]
        full = {**STUCK, ("two", "b"): 3, ("one", "b"): 1}
        for plan in (STUCK, full, {}):
            for many in range(5):
                for names in itertools.product(words, repeat=many):
                    expected = is_plain_moving(DEMANDS, PRICES, plan, names)
                    self.assertIs(is_moving(DEMANDS, PRICES, plan, list(names)), expected)
                    self.assertIs(is_moving(DEMANDS, PRICES, plan, names), expected)

    def test_names_that_stand_twice(self):
        demands = [("d", 9, ("p", "q")), ("e", 2, ("p", "q", "r"))]
        prices = {"p": 1, "q": 1, "r": 5}
        plan = {("d", "p"): 1, ("e", "q"): 1}
        self.assertIs(is_moving(demands, prices, plan, ["d", "q", "e", "r"]), True)
        self.assertIs(is_moving(demands, prices, plan, ["e", "p", "d", "q", "e", "r"]), False)
        self.assertIs(is_moving(demands, prices, plan, ["d", "p", "d", "q", "e", "r"]), False)
        self.assertIs(is_moving([("d", 2, ("p",)), ("e", 2, ("p",))], {"p": 3}, {("e", "p"): 1},
                                ["d", "p", "e", "p"]), False)
        # One name stands for a demand and for a parcel.
        self.assertIs(is_moving([("p", 2, ("p",))], {"p": 3}, {}, ["p", "p"]), True)
        self.same(find_moving([("p", 2, ("p",))], {"p": 3}, {}), ["p", "p"])

    def test_values_of_any_kind(self):
        for value in any_values():
            self.assertIs(is_moving(DEMANDS, PRICES, STUCK, value), False)
            self.assertIs(is_moving(DEMANDS, PRICES, STUCK, [value, "b"]), False)
            self.assertIs(is_moving(DEMANDS, PRICES, STUCK, ["one", value]), value == "b")
            self.assertIs(is_moving(DEMANDS, PRICES, STUCK, ["a", "a", value, "b"]), False)
            self.assertIs(is_moving(DEMANDS, PRICES, STUCK, ["a", value, "one", "b"]), False)
            self.assertIs(is_moving(DEMANDS, PRICES, STUCK, ["one", "b", value]), False)
            self.assertIs(is_moving(DEMANDS, PRICES, STUCK, [value]), False)
        self.assertIs(is_moving(DEMANDS, PRICES, STUCK, {"one": "b"}), False)
        self.assertIs(is_moving([("a", 1, ("b",))], {"b": 1}, {}, "ab"), False)
        self.assertIs(is_moving([("a", 1, ("b",))], {"b": 1}, {}, ["a", "b"]), True)

    def test_moving_along(self):
        for rng, ranks, prices in random_cases("rooms", 150):
            demands = ranks.demands()
            plan = some_plan(rng, demands, prices)
            names = find_moving(demands, prices, plan)
            while names is not None:
                most = room(demands, prices, plan, names)
                self.check_room(demands, prices, plan, names, most)
                for many in sorted({1, most, rng.randint(1, most)}):
                    self.check_moved(demands, prices, plan, names, many)
                for many in (0, most + 1, -1, True, False, None, "1", [1], (1,), 10 ** 40):
                    self.fails(InvalidNumber, lambda: moved(demands, prices, plan, names, many), many)
                plan = moved(demands, prices, plan, names, most)
                names = find_moving(demands, prices, plan)
            self.assertEqual(sum(plan.values()), plain_sum(demands, prices))

    def check_room(self, demands, prices, plan, names, most):
        amounts = {name: amount for name, amount, _ in demands}
        parts = [amounts[names[0]] - sum(plan[key] for key in plan if key[0] == names[0])]
        parts.append(prices[names[-1]] - sum(plan[key] for key in plan if key[1] == names[-1]))
        parts += [plan[(name, parcel)] for parcel, name in zip(names[1::2], names[2::2])]
        self.same(most, min(parts))
        self.same(room(names=tuple(names), plan=plan, prices=prices, demands=demands), most)

    def check_moved(self, demands, prices, plan, names, many):
        before = dict(plan)
        after = moved(demands, prices, plan, names, many)
        self.same(moved(demands, prices, plan, tuple(names), many), after)
        self.assertEqual([plan, list(plan)], [before, list(before)])
        self.is_plain_plan(demands, prices, after)
        expected = dict(plan)
        for name, parcel in zip(names[0::2], names[1::2]):
            expected[(name, parcel)] = expected.get((name, parcel), 0) + many
        for parcel, name in zip(names[1::2], names[2::2]):
            expected[(name, parcel)] -= many
        self.assertEqual(after, {pair: number for pair, number in expected.items() if number > 0})

    def test_errors_in_their_order(self):
        calls = (lambda plan, names, many: find_moving(DEMANDS, PRICES, plan),
                 lambda plan, names, many: is_moving(DEMANDS, PRICES, plan, names),
                 lambda plan, names, many: room(DEMANDS, PRICES, plan, names),
                 lambda plan, names, many: moved(DEMANDS, PRICES, plan, names, many))
        for value in any_values() + [{("one", "a"): 5}, {("one", "z"): 1}, {("one", "a"): True}]:
            for call in calls:
                if value != {}:
                    for names, many in ((["one", "b"], 1), (5, 1), (5, 5), (["one", "b"], 0)):
                        self.fails(InvalidPlan, lambda: call(value, names, many))
            for call in calls[2:]:
                for many in (1, 0, True, None, 99):
                    self.fails(InvalidMoving, lambda: call(STUCK, value, many))
            if not isinstance(value, int) or value is True or value < 1 or value > 1:
                self.fails(InvalidNumber, lambda: moved(DEMANDS, PRICES, STUCK, ["one", "b"], value), value)
        self.same(room(DEMANDS, PRICES, STUCK, ["one", "b"]), 1)
        self.fails(InvalidNumber, lambda: moved(DEMANDS, PRICES, STUCK, ["one", "b"], 2), 2)
        self.assertEqual(STUCK, {("one", "a"): 4, ("a", "c"): 2})

    def test_what_is_passed_stays(self):
        demands, prices, plan, names = list(DEMANDS), dict(PRICES), dict(STUCK), ["one", "b"]
        parcels = ["b", "a", "a"]
        greatest_plan(demands, prices, parcels=parcels).clear()
        find_moving(demands, prices, plan).clear()
        moved(demands, prices, plan, names, 1).clear()
        self.same([demands, prices, plan, names, parcels],
                  [DEMANDS, PRICES, STUCK, ["one", "b"], ["b", "a", "a"]])
        self.same(find_moving(demands, prices, plan), names)


if __name__ == "__main__":
    unittest.main()
