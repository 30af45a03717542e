"""Deeds and corrections: [38]."""

import unittest

from deedranks.deeds import is_correction, is_deed
from deedranks.shares import Share
from support import Case, any_values, good_deeds

CORRECTIONS = ("strike", "instead")
# For each word what its items are.
KINDS = {
    "sale": "lot name name share knew", "gift": "lot name name share", "heirs": "name heirs", "void": "number",
    "uphold": "number", "divide": "name cells name", "unite": "name name", "grant": "name name lot knew",
    "waive": "name name", "charge": "name name amount lot lot knew", "reserve": "name amount lot day lot knew",
    "fill": "name name", "repay": "name amount", "assign": "name name", "part": "name amount name", "merge": "name",
    "release": "name name", "extend": "name name lot knew", "yield": "name name", "trade": "name name",
    "strike": "number", "instead": "number deed",
}
LETTERS = "abcdefghijklm"
CELLS = tuple((row, column) for row in range(12) for column in range(12))
# Items of each kind that are good, whatever the other items are, and such that are not.
GOOD = {
    "name": ["zz", "zzzzzz"], "lot": [("a",), ("a", "b"), tuple(LETTERS[:12])],
    "share": [Share(1), Share(1, 60), Share(59, 60), Share(2, 120)], "knew": [True, False],
    "heirs": [(("zz", 1),), (("zz", 9), ("y", 1)), (("p", 1), ("q", 1), ("r", 1), ("s", 1))],
    "number": [1, 999], "cells": [((0, 0),), ((11, 11), (0, 0)), CELLS, CELLS[::-1]],
    "amount": [1, 10 ** 12 - 1], "day": [0, 9999],
    "deed": [("void", 1), ("merge", "a"), ("gift", ("a",), "b", "c", Share(1))],
}
BAD = {
    "name": ["", "A", "abcdefg", "a b", "a1", " a", "a\n", 5, None, ("a",), ["a"]],
    "lot": [(), ("b", "a"), ("a", "a"), ["a"], "a", ("A",), ("a", 1), tuple(LETTERS), None],
    "share": [Share(0), Share(-1, 2), Share(61, 60), Share(2), Share(1, 61), Share(60, 61), Share(2, 121), 1, "1/2",
              (1, 2), None, True],
    "knew": [0, 1, None, "knew", "good", "", (), Share(1)],
    "heirs": [(), [("zz", 1)], ("zz", 1), (["zz", 1],), (("zz", 0),), (("zz", 10),), (("zz", True),), (("zz",),),
              (("zz", 1, 1),), (("Z", 1),), (("zz", 1), ("zz", 2)), (("zz", 1), ("y", 1), ("zz", 1)),
              (("p", 1), ("q", 1), ("r", 1), ("s", 1), ("t", 1)), None, "zz", (("zz", "1"),), (1, 2)],
    "number": [0, 1000, -1, True, "1", None, Share(1), (1,)],
    "cells": [(), [(0, 0)], ((0, 12),), ((12, 0),), ((0, 0), (0, 0)), ([0, 0],), (0, 0), ((0, True),), ((0, 0, 0),),
              (((0, 0),),), ((0, -1),), CELLS + ((0, 0),), None, "0.0"],
    "amount": [0, -1, 10 ** 12, True, "1", None, Share(1), 10 ** 40],
    "day": [-1, 10000, True, False, "0", None, (0,)],
    "deed": [("strike", 1), ("instead", 1, ("merge", "a")), ["merge", "a"], ("merge",), (), "merge", None, ("void", 0),
             ("merge", "a", "b"), ((("merge", "a"),),), ("instead", 1, ("instead", 1, ("merge", "a"))), ([], 1)],
}
APART = [("sale", 2, 3), ("gift", 2, 3), ("divide", 1, 3), ("unite", 1, 2), ("grant", 1, 2), ("waive", 1, 2),
         ("part", 1, 3), ("yield", 1, 2), ("trade", 1, 2)]


def is_good(kind, value):
    """Whether one of the values of any kind is an item of this kind."""
    if kind == "knew":
        return isinstance(value, bool)
    if kind == "cells":
        return value == ((0, 0),)
    if isinstance(value, bool) or not isinstance(value, (int, Share)):
        return False
    if kind == "share":
        return value == Share(1, 2)
    return isinstance(value, int) and value in {"number": (1,), "amount": (1,), "day": (0, 1)}.get(kind, ())


def changed_deed(deed, at, value):
    return deed[:at] + (value,) + deed[at + 1:]


class Deeds(Case):
    def told(self, value, deed):
        self.assertIs(is_deed(value), deed, value)
        self.assertIs(is_correction(value), deed and value[0] in CORRECTIONS, value)
        self.assertIs(is_deed(value=value), deed)

    def test_each_word(self):
        self.assertEqual({deed[0] for deed in good_deeds()}, set(KINDS))
        for deed in good_deeds():
            self.told(deed, True)
        self.assertTrue(is_correction(("strike", 1)))
        self.assertTrue(is_correction(value=("instead", 2, ("void", 1))))

    def test_each_item_in_turn(self):
        for deed in good_deeds():
            kinds = KINDS[deed[0]].split()
            self.assertEqual(len(deed), len(kinds) + 1)
            for at, kind in enumerate(kinds, start=1):
                for value in GOOD[kind]:
                    self.told(changed_deed(deed, at, value), True)
                for value in BAD[kind]:
                    self.told(changed_deed(deed, at, value), False)
                for value in any_values():
                    self.told(changed_deed(deed, at, value), is_good(kind, value))

    def test_items_too_few_or_too_many(self):
        for deed in good_deeds():
            for many in range(1, len(deed)):
                self.told(deed[:many], False)
                self.told(deed[:many] + deed[many + 1:], False)
            for value in ("a", True, 5, None, deed[-1]):
                self.told(deed + (value,), False)

    def test_lists_in_the_place_of_tuples(self):
        for deed in good_deeds():
            self.told(list(deed), False)
            for at, item in enumerate(deed):
                if isinstance(item, tuple):
                    self.told(changed_deed(deed, at, list(item)), False)
                    for place, part in enumerate(item):
                        if isinstance(part, tuple):
                            self.told(changed_deed(deed, at, changed_deed(item, place, list(part))), False)

    def test_other_words(self):
        for deed in good_deeds():
            for word in ("", "Sale", "sales", " ", "enter", "cancel", "put", deed[0] + " ", deed[0].upper(), 5, None, True,
                         (deed[0],), [deed[0]], {}, deed):
                self.told((word,) + deed[1:], False)
        self.told(("enter", "a", 1), False)
        self.told(("cancel", "a"), False)

    def test_names_that_must_differ(self):
        for word, first, second in APART:
            for deed in [deed for deed in good_deeds() if deed[0] == word]:
                self.told(deed, True)
                self.told(changed_deed(deed, first, deed[second]), False)
                self.told(changed_deed(deed, second, deed[first]), False)
        self.told(("heirs", "ann", (("bob", 1), ("ann", 1))), False)
        self.told(("heirs", "ann", (("ann", 1),)), False)
        self.told(("heirs", "ann", (("bob", 1), ("cyd", 1), ("bob", 2))), False)

    def test_names_that_may_be_equal(self):
        for deed in (("sale", ("a",), "a", "b", Share(1), True), ("divide", "a", ((0, 0),), "b"),
                     ("charge", "a", "a", 1, ("a",), ("a",), False), ("reserve", "a", 1, ("a",), 0, ("a",), False),
                     ("fill", "a", "a"), ("assign", "a", "a"), ("release", "a", "a"),
                     ("extend", "a", "a", ("a",), False), ("heirs", "a", (("b", 1),)),
                     ("grant", "a", "b", ("a", "b"), False)):
            self.told(deed, True)

    def test_insteads(self):
        for deed in good_deeds():
            self.told(("instead", 999, deed), deed[0] not in CORRECTIONS)
            self.told(("instead", 0, deed), False)
            self.told(("instead", deed), False)
            self.told(("instead", 5, list(deed)), False)
            self.told(("instead", 5, deed[:-1]), False)
            self.told(("instead", 5, (deed,)), False)
            self.told(("strike", deed), False)
        # Whether the numbers fall from the outside is a matter of entries.
        self.told(("instead", 5, ("void", 7)), True)

    def test_insteads_within_insteads(self):
        deed = ("merge", "a")
        for _ in range(100000):
            deed = ("instead", 5, deed)
        self.assertIs(is_deed(deed), False)
        self.assertIs(is_correction(deed), False)
        while len(deed) == 3:
            deed = deed[2]

    def test_values_of_any_kind(self):
        for value in any_values():
            self.told(value, False)
            self.told((value,), False)
            self.told((value, "a"), False)
            self.told((value, value), False)

    def test_corrections(self):
        for deed in good_deeds():
            self.assertIs(is_correction(deed), deed[0] in CORRECTIONS)
        for value in (("strike", 0), ("strike",), ("strike", 1, 1), ["strike", 1], ("instead", 5, ("strike", 1)),
                      ("instead", 5)):
            self.told(value, False)


if __name__ == "__main__":
    unittest.main()
