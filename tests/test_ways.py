"""Steps, ways, gates and what is reached: [10] and [11]."""

import random
import unittest

from deedranks.errors import InvalidStep, UnknownParcel
from deedranks.granting import possible_steps
from deedranks.plats import Plat
from deedranks.ways import Ways
from support import Case, any_values
from test_plats import random_plat, rows_of


def all_ways(plat, steps, name):
    """A plain list of all ways of a parcel."""
    found = []

    def go(path):
        if plat.fronts(path[-1]):
            found.append(path)
            return
        for start, over in set(steps):
            if start == path[-1] and over not in path:
                go(path + [over])

    go([name])
    return found


def all_reached(steps, name):
    found = {name}
    while True:
        more = {over for start, over in steps if start in found} - found
        if not more:
            return sorted(found)
        found |= more


def small_cases(many, seed):
    """Small plats with some of their steps, some of them twice."""
    chance = random.Random(seed)
    while many > 0:
        plat = random_plat(chance)
        if len(plat) > 7:
            continue
        many -= 1
        density = chance.choice([0.2, 0.4, 0.7, 1])
        steps = [step for step in possible_steps(plat) if chance.random() < density]
        steps += [step for step in steps if chance.random() < 0.3]
        chance.shuffle(steps)
        yield plat, steps


class Steps(Case):
    def setUp(self):
        self.plat = Plat(rows_of("abc", "add"), road=[(0, 0)])

    def test_steps_are_ascending_without_duplicates(self):
        given = [("c", "b"), ("b", "a"), ("c", "b"), ("a", "b")]
        ways = Ways(self.plat, given)
        self.same(ways.steps(), [("a", "b"), ("b", "a"), ("c", "b")])
        self.assertEqual([len(ways), repr(ways), ways.plat], [3, "Ways(3 steps)", self.plat])
        self.assertEqual(repr(Ways(self.plat, [("a", "b")])), "Ways(1 steps)")
        self.assertEqual([len(Ways(plat=self.plat, steps=())), Ways(self.plat, ()).steps()], [0, []])
        self.assertEqual(given, [("c", "b"), ("b", "a"), ("c", "b"), ("a", "b")])
        given.clear()
        ways.steps().clear()
        self.assertEqual(len(ways.steps()), 3)

    def test_with_steps(self):
        ways = Ways(self.plat, [("b", "a")])
        more = ways.with_steps(("c", "b"), ("b", "a"), ("d", "a"))
        self.assertEqual(more.steps(), [("b", "a"), ("c", "b"), ("d", "a")])
        self.assertEqual(ways.steps(), [("b", "a")])
        self.assertEqual(ways.with_steps().steps(), [("b", "a")])
        self.assertEqual(more.plat, self.plat)

    def test_wrong_steps(self):
        wrong = any_values() + [("a", "c"), ("a", "a"), ("a", "e"), ("e", "a"), ("a", "b", "d"), ["a", "b"], ("a",),
                                ("a", None), (("a", "b"), "c"), ("a", ["b"]), "ab"]
        wrong.remove(("b", "a"))
        for value in wrong:
            if not isinstance(value, (list, tuple)):
                self.fails(InvalidStep, lambda: Ways(self.plat, value), -1)
            self.fails(InvalidStep, lambda: Ways(self.plat, [value]), 0)
            self.fails(InvalidStep, lambda: Ways(self.plat, [("a", "b"), ("a", "b"), value, 5]), 2)
            ways = Ways(self.plat, [("a", "b"), ("b", "a")])
            self.fails(InvalidStep, lambda: ways.with_steps(value), 0)
            self.fails(InvalidStep, lambda: ways.with_steps(("d", "a"), value, 5), 1)
            self.assertEqual(len(ways), 2)
        self.fails(InvalidStep, lambda: Ways(self.plat, {("a", "b"): 1}), -1)

    def test_unknown_parcels(self):
        ways = Ways(self.plat, [("b", "a")])
        for value in any_values() + ["e", "aa"]:
            for call in (ways.comes, ways.way, ways.gates, ways.reached):
                self.fails(UnknownParcel, lambda: call(value), value)
                self.fails(UnknownParcel, lambda: call(name=value), value)


class Asking(Case):
    def test_a_line_of_parcels(self):
        ways = Ways(Plat(rows_of("abcd"), road=[(0, 0)]), [("d", "c"), ("c", "b"), ("b", "a"), ("b", "c")])
        self.same([ways.way(name) for name in "abcd"], [["a"], ["b", "a"], ["c", "b", "a"], ["d", "c", "b", "a"]])
        self.same([ways.gates(name) for name in "abcd"], [[], ["a"], ["a", "b"], ["a", "b", "c"]])
        self.same([ways.reached(name) for name in "abcd"], [["a"], ["a", "b", "c"], ["a", "b", "c"],
                                                            ["a", "b", "c", "d"]])
        self.same([ways.comes("d"), ways.bare()], [True, []])

    def test_a_parcel_at_the_road_has_just_one_way(self):
        ways = Ways(Plat(rows_of("abc"), road=[(0, 0), (0, 1)]), [("b", "a"), ("a", "b"), ("c", "b")])
        self.assertEqual([ways.way("b"), ways.gates("b"), ways.way("c"), ways.gates("c")],
                         [["b"], [], ["c", "b"], ["b"]])
        self.assertEqual(ways.reached("c"), ["a", "b", "c"])

    def test_without_a_road(self):
        ways = Ways(Plat(rows_of("abc")), [("a", "b"), ("b", "c"), ("c", "b")])
        for name in "abc":
            self.same([ways.comes(name), ways.way(name), ways.gates(name)], [False, None, None])
        self.assertEqual([ways.bare(), ways.reached("a"), ways.reached("c")],
                         [["a", "b", "c"], ["a", "b", "c"], ["b", "c"]])

    def test_the_least_one_of_the_shortest_ways(self):
        plat = Plat(rows_of("zzz", "bca", "ddd"), road=[(0, 0)])
        steps = [("d", "c"), ("d", "b"), ("d", "a"), ("c", "z"), ("b", "z"), ("a", "c")]
        self.assertEqual(Ways(plat, steps).way("d"), ["d", "b", "z"])
        self.assertEqual(Ways(plat, steps).gates("d"), ["z"])
        # A way with fewer parcels comes ahead of a lesser one.
        self.assertEqual(Ways(plat, steps).way("a"), ["a", "c", "z"])

    def test_two_roads(self):
        plat = Plat(rows_of("abc"), road=[(0, 0), (0, 2)])
        self.assertEqual([Ways(plat, [("b", "c"), ("b", "a")]).way("b"), Ways(plat, [("b", "c")]).way("b")],
                         [["b", "a"], ["b", "c"]])
        self.assertEqual([Ways(plat, [("b", "c"), ("b", "a")]).gates("b"), Ways(plat, [("b", "c")]).gates("b")],
                         [[], ["c"]])

    def test_against_all_ways(self):
        for plat, steps in small_cases(150, 11):
            ways = Ways(plat, steps)
            self.assertEqual(ways.steps(), sorted(set(steps)))
            bare = []
            for name in plat.names():
                found = all_ways(plat, steps, name)
                self.assertIs(ways.comes(name), bool(found))
                self.assertEqual(ways.reached(name), all_reached(steps, name))
                if not found:
                    bare.append(name)
                    self.assertEqual((ways.way(name), ways.gates(name)), (None, None))
                    continue
                fewest = min(map(len, found))
                self.assertEqual(ways.way(name), min(path for path in found if len(path) == fewest))
                gates = [other for other in plat.names() if other != name and all(other in path for path in found)]
                self.assertEqual(ways.gates(name), gates)
            self.assertEqual(ways.bare(), bare)

    def test_equal_ways_answer_equally_and_answers_are_new(self):
        for plat, steps in small_cases(20, 12):
            left, right = Ways(plat, steps), Ways(plat, sorted(steps)[::-1])
            for name in plat.names():
                for call in ("way", "gates", "reached"):
                    first = getattr(left, call)(name)
                    self.assertEqual(first, getattr(right, call)(name))
                    if first:
                        first.append("x")
                        self.assertEqual(first[:-1], getattr(left, call)(name))


if __name__ == "__main__":
    unittest.main()
