"""What the tests share: values of any kind, and a check of errors with their attributes."""

import unittest

from deedranks.claims import Claim
from deedranks.errors import InvalidName
from deedranks.plats import Plat
from deedranks.ranks import RankList
from deedranks.shares import Share
from deedranks.titles import Titles
from deedranks.ways import Ways


def any_values():
    """Values of any kind; none of them is a name, a lot, a cell, or a number from 2 on below 10 ** 12."""
    plat = Plat([["a", "b"]], road=[(0, 0)])
    return [
        None, True, False, 0, 1, -1, -5, 10 ** 12, -10 ** 40, "", " ", "A", "Ann", "abcdefg", "a b", "a1", "a\n", "*",
        "a*", "-", "1", "1/2", (), [], {}, ("a", 1), (True, 0), (0, True), (0,), (0, 0, 0), (0, 12), (-1, 0),
        ("b", "a"), ("a", "a"), ["a"], ["a", "b"], [0, 0], ((0, 0),), [(0, 0)], {"a": 1}, {"a": "ann"}, {(0, 0): "a"},
        [[]], [{}], ({},), ([], []), (None, None), [None], ((((("a",),),),),), [[[[["a"]]]]], {1: {2: {3: {4: [5]}}}},
        Share(1, 2), Share(0), plat, Ways(plat, []), Titles({"a": "ann"}), Claim("one", "ann", 1, ("a",)), RankList(),
        RankList(Claim("a", None, 1, ("a",))), InvalidName("a"), (Share(1), Share(1)), (plat, plat), [Share(1, 2)],
    ]


class Case(unittest.TestCase):
    """A test case that also checks the attributes of errors."""

    def fails(self, error, call, *told):
        """call raises error with told as its attributes, in the order of the constructor, and its code."""
        with self.assertRaises(error) as caught:
            call()
        self.assertIs(caught.exception.__class__, error)
        expected = vars(error(*told))
        self.assertEqual(len(told), len(expected) - 1)
        found = vars(caught.exception)
        self.assertEqual(list(found), list(expected))
        for name in expected:
            self.same(found[name], expected[name])

    def same(self, found, expected):
        """Equal, and of the same class all the way down."""
        self.assertIs(found.__class__, expected.__class__)
        self.assertEqual(found, expected)
        if isinstance(expected, (list, tuple)):
            for left, right in zip(found, expected):
                self.same(left, right)
        if isinstance(expected, dict):
            self.assertEqual(list(found), list(expected))
            for key in expected:
                self.same(found[key], expected[key])
