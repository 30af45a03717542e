"""Plats, dividing and uniting: [7] and [8]."""

import random
import unittest

from deedranks.cells import corner_counts, holes
from deedranks.errors import Apart, DuplicateName, InvalidCell, InvalidName, InvalidNumber, InvalidRow, NotBeside
from deedranks.errors import TooMany, UnknownParcel
from deedranks.plats import Plat
from support import Case, any_values

LETTERS = "abcdefghijklmnopqrstuvwxyz"


def rows_of(*lines):
    """Rows of parcels with names of one letter."""
    return [list(line) for line in lines]


def random_plat(chance):
    """A plat that is divided at random again and again."""
    height, width = chance.randrange(1, 13), chance.randrange(1, 13)
    road = [(row, column) for row in range(height) for column in range(width)
            if (row in (0, height - 1) or column in (0, width - 1)) and chance.random() < 0.1]
    plat = Plat([["m"] * width] * height, road=road)
    for new in chance.sample(LETTERS, chance.randrange(1, 12)):
        name = chance.choice(plat.names())
        cells = [cell for cell in plat.cells(name) if chance.random() < 0.5]
        if new not in plat:
            try:
                plat = plat.divided(name, cells, new)
            except Apart:
                cells = plat.cells(name)[:1]
                if plat.area(name) > 1:
                    try:
                        plat = plat.divided(name, cells, new)
                    except Apart:
                        pass
    return plat


class Making(Case):
    def test_attributes_and_lists(self):
        plat = Plat([["a", "a", "b"], ("c", "c", "b")], road=[(1, 2), (0, 0)])
        self.same([plat.height, plat.width, len(plat)], [2, 3, 3])
        self.same([plat.rows(), plat.road(), plat.names()],
                  [[["a", "a", "b"], ["c", "c", "b"]], [(0, 0), (1, 2)], ["a", "b", "c"]])
        self.assertEqual(repr(plat), "Plat(3 parcels)")
        self.assertEqual(repr(Plat([["a"]])), "Plat(1 parcels)")
        self.assertEqual(Plat.MOST, 12)
        self.assertEqual(plat, Plat(rows=(["a", "a", "b"], ["c", "c", "b"]), road=((0, 0), (1, 2))))
        self.assertRaises(TypeError, lambda: Plat([["a"]], []))

    def test_the_greatest_plats(self):
        plat = Plat([["a"] * 12] * 12)
        self.assertEqual((plat.area("a"), plat.rim("a"), plat.outline("a")), (144, 48, 48))
        plat = Plat([list(LETTERS[:12])] * 12)
        self.assertEqual((len(plat), plat.area("l"), plat.border("a", "b")), (12, 12, 12))

    def test_wrong_rows(self):
        for value in any_values():
            if not isinstance(value, (list, tuple)) or len(value) == 0:
                self.fails(InvalidRow, lambda: Plat(value), -1)
                self.fails(InvalidRow, lambda: Plat(value, road="x"), -1)
                self.fails(InvalidRow, lambda: Plat([value]), 0)
                self.fails(InvalidRow, lambda: Plat([["a"], value]), 1)
            if not isinstance(value, str) or value == "":
                self.fails(InvalidRow, lambda: Plat([["a"], [value]]), 1)
        self.fails(InvalidRow, lambda: Plat([["a"]] * 13), -1)
        self.fails(InvalidRow, lambda: Plat([["a"] * 13]), 0)
        self.fails(InvalidRow, lambda: Plat([["a"], ["a"] * 13]), 1)
        self.fails(InvalidRow, lambda: Plat([["a", "a"], ["a"], ["A", "a"]]), 1)
        self.fails(InvalidRow, lambda: Plat([["a", "a"], ["a", "a"], ["A", "a"], "x"]), 2)
        self.fails(InvalidRow, lambda: Plat([["a", "abcdefg"]]), 0)
        self.fails(InvalidRow, lambda: Plat(["a"]), 0)
        self.fails(InvalidRow, lambda: Plat({"a": "a"}), -1)

    def test_too_many_parcels(self):
        self.fails(TooMany, lambda: Plat(rows_of("abcdef", "ghijkl", "mmmmmm")), 12)
        # Ahead of parcels that are apart, and of road cells.
        self.fails(TooMany, lambda: Plat(rows_of("abcdef", "ghijkl", "mabmmm"), road=5), 12)
        self.fails(InvalidRow, lambda: Plat(rows_of("abcdef", "ghijkl", "mmmmm")), 2)

    def test_parcels_that_are_apart(self):
        self.fails(Apart, lambda: Plat(rows_of("bab", "aca")), "a")
        self.fails(Apart, lambda: Plat(rows_of("zbz", "bbb")), "z")
        self.fails(Apart, lambda: Plat(rows_of("ab", "ba")), "a")
        self.fails(Apart, lambda: Plat(rows_of("ab", "ba"), road=5), "a")

    def test_wrong_road_cells(self):
        rows = rows_of("aaa", "aba", "aaa")
        for value in any_values():
            if not isinstance(value, (list, tuple)):
                self.fails(InvalidCell, lambda: Plat(rows, road=value), -1)
            self.fails(InvalidCell, lambda: Plat(rows, road=[(0, 0), value]), 1)
        self.fails(InvalidCell, lambda: Plat(rows, road=[(0, 0), (1, 1), (9, 9)]), 1)
        self.fails(InvalidCell, lambda: Plat(rows, road=[(0, 3)]), 0)
        self.fails(InvalidCell, lambda: Plat(rows, road=[(3, 0)]), 0)
        self.fails(InvalidCell, lambda: Plat(rows, road=((0, 1), (2, 2), (0, 1))), 2)
        self.fails(InvalidCell, lambda: Plat(rows, road={(0, 0): 1}), -1)
        self.assertEqual(Plat(rows, road=()).road(), [])

    def test_single(self):
        self.assertEqual(Plat.single("ann", 2, 3), Plat([["ann"] * 3] * 2))
        self.assertEqual(Plat.single(width=12, name="a", height=1).rows(), [["a"] * 12])
        self.assertEqual(Plat.single("a", 12, 12).road(), [])
        for value in any_values():
            self.fails(InvalidName, lambda: Plat.single(value, 0, 0), value)
            if value is True or value != 1:
                self.fails(InvalidNumber, lambda: Plat.single("a", value, 0), value)
                self.fails(InvalidNumber, lambda: Plat.single("a", 1, value), value)
        for size in (0, 13, -1, True):
            self.fails(InvalidNumber, lambda: Plat.single("a", size, 99), size)
            self.fails(InvalidNumber, lambda: Plat.single("a", 12, size), size)

    def test_lists_are_copied_and_new(self):
        rows, road = rows_of("aab", "ccb"), [(0, 0)]
        plat = Plat(rows, road=road)
        same = Plat(rows, road=road)
        rows[0][0] = "z"
        rows.append("x")
        road.append((1, 1))
        self.assertEqual(plat, same)
        for call in (plat.rows, plat.road, plat.names, lambda: plat.cells("a"), lambda: plat.neighbours("a")):
            call().clear()
        plat.rows()[0].clear()
        self.assertEqual(plat, same)
        self.assertEqual([plat.names(), plat.cells("a"), plat.neighbours("a")],
                         [["a", "b", "c"], [(0, 0), (0, 1)], ["b", "c"]])
        road = [(1, 0), (0, 0)]
        Plat(rows_of("aab", "ccb"), road=road)
        self.assertEqual(road, [(1, 0), (0, 0)])


class Asking(Case):
    def setUp(self):
        self.plat = Plat(rows_of("aaaab", "accab", "acaab", "aaadd"), road=[(0, 4), (3, 2)])

    def test_parcels(self):
        plat = self.plat
        self.same(plat.cells("c"), [(1, 1), (1, 2), (2, 1)])
        self.same([plat.area(name) for name in plat.names()], [12, 3, 3, 2])
        self.same([plat.rim(name) for name in plat.names()], [11, 4, 0, 3])
        self.same([plat.outline(name) for name in plat.names()], [24, 8, 8, 6])
        self.same([plat.corners(name) for name in plat.names()], [(6, 6), (4, 0), (5, 1), (4, 0)])
        self.same([plat.hole_count(name) for name in plat.names()], [1, 0, 0, 0])
        self.same([plat.neighbours(name) for name in plat.names()], [["b", "c", "d"], ["a", "d"], ["a"], ["a", "b"]])
        self.same([plat.fronts(name) for name in plat.names()], [True, True, False, False])
        self.same([plat.border("a", "c"), plat.border("d", "a"), plat.border("c", "d"), plat.border("a", "a")],
                  [8, 2, 0, 0])

    def test_parcel_at(self):
        self.assertEqual([self.plat.parcel_at((0, 4)), self.plat.parcel_at(cell=(3, 4))], ["b", "d"])
        for value in any_values() + [(4, 0), (0, 5), (11, 11), [0, 0], (True, 1), (1.0, 1)]:
            self.assertIsNone(self.plat.parcel_at(value))

    def test_unknown_parcels(self):
        plat = self.plat
        calls = (plat.cells, plat.area, plat.rim, plat.outline, plat.corners, plat.hole_count, plat.neighbours,
                 plat.fronts)
        for value in any_values() + ["e", "aa"]:
            for call in calls:
                self.fails(UnknownParcel, lambda: call(value), value)
                self.fails(UnknownParcel, lambda: call(name=value), value)
            self.fails(UnknownParcel, lambda: plat.border(value, "zz"), value)
            self.fails(UnknownParcel, lambda: plat.border("a", second=value), value)
            self.assertIs(value in plat, False)
            self.assertIs(plat == value, False)
        self.assertIs("a" in plat, True)

    def test_equality(self):
        rows = rows_of("aab", "ccb")
        self.assertEqual(Plat(rows, road=[(0, 0), (1, 1)]), Plat(rows, road=[(1, 1), (0, 0)]))
        self.assertNotEqual(Plat(rows, road=[(0, 0)]), Plat(rows))
        self.assertNotEqual(Plat(rows), Plat(rows_of("aab", "cbb")))
        self.assertNotEqual(Plat(rows), rows)

    def test_facts_on_random_plats(self):
        chance = random.Random(7)
        for _ in range(60):
            plat = random_plat(chance)
            self.assertEqual(sum(plat.area(name) for name in plat.names()), plat.height * plat.width)
            self.assertEqual(sum(plat.rim(name) for name in plat.names()), 2 * (plat.height + plat.width))
            for name in plat.names():
                cells = plat.cells(name)
                self.assertEqual(cells, [(row, column) for row in range(12) for column in range(12)
                                         if plat.parcel_at((row, column)) == name])
                borders = {other: self.plain_border(cells, plat.cells(other)) for other in plat.names()
                           if other != name}
                self.assertEqual(borders, {other: plat.border(name, other) for other in borders})
                self.assertEqual(plat.neighbours(name), [other for other in borders if borders[other]])
                self.assertEqual(plat.rim(name), sum([(row == 0) + (row == plat.height - 1) + (column == 0)
                                                      + (column == plat.width - 1) for row, column in cells]))
                self.assertEqual(plat.outline(name), plat.rim(name) + sum(borders.values()))
                self.assertEqual(plat.corners(name), corner_counts(cells))
                self.assertEqual(plat.hole_count(name), len(holes(cells)))
                self.assertIs(plat.fronts(name), any(cell in plat.road() for cell in cells))

    def plain_border(self, left, right):
        return sum(1 for one in left for two in right if abs(one[0] - two[0]) + abs(one[1] - two[1]) == 1)


class Changing(Case):
    def setUp(self):
        self.plat = Plat(rows_of("aaa", "aba", "ccc"), road=[(0, 0), (2, 2)])

    def test_divided(self):
        new = self.plat.divided("a", [(0, 2), (1, 2)], "d")
        self.assertEqual(new, Plat(rows_of("aad", "abd", "ccc"), road=[(0, 0), (2, 2)]))
        self.assertEqual(self.plat, Plat(rows_of("aaa", "aba", "ccc"), road=[(0, 0), (2, 2)]))
        self.assertEqual(self.plat.divided(new="d", cells=((1, 0),), name="a").road(), [(0, 0), (2, 2)])
        self.assertEqual(new.united("a", "d"), self.plat)
        cells = [(1, 2), (0, 2)]
        self.plat.divided("a", cells, "d")
        self.assertEqual(cells, [(1, 2), (0, 2)])

    def test_wrong_divisions_in_their_order(self):
        plat = self.plat
        for value in any_values():
            self.fails(UnknownParcel, lambda: plat.divided(value, value, value), value)
            self.fails(InvalidName, lambda: plat.divided("a", value, value), value)
            if not isinstance(value, (list, tuple)):
                self.fails(InvalidCell, lambda: plat.divided("a", value, "d"), -1)
            self.fails(InvalidCell, lambda: plat.divided("a", [(0, 0), value, (1, 1)], "d"), 1)
        self.fails(UnknownParcel, lambda: plat.divided("d", 5, "A"), "d")
        self.fails(DuplicateName, lambda: plat.divided("a", 5, "b"), "b")
        self.fails(DuplicateName, lambda: plat.divided("a", [(0, 0)], "a"), "a")
        self.fails(InvalidCell, lambda: plat.divided("a", [(0, 0), (0, 1), (0, 0)], "d"), 2)
        self.fails(InvalidCell, lambda: plat.divided("a", [(0, 0), (1, 1), (0, 0)], "d"), 1)
        self.fails(Apart, lambda: plat.divided("a", [], "d"), "d")
        self.fails(Apart, lambda: plat.divided("a", [(1, 0), (1, 2)], "d"), "d")
        self.fails(Apart, lambda: plat.divided("a", [(0, 0), (0, 2)], "d"), "d")
        self.fails(Apart, lambda: plat.divided("a", [(0, 1)], "d"), "a")
        self.fails(Apart, lambda: plat.divided("b", [(1, 1)], "d"), "b")
        full = Plat(rows_of("abcdef", "ghijkl", "llllll"))
        self.fails(TooMany, lambda: full.divided("l", [], "m"), 12)
        self.fails(TooMany, lambda: full.divided("l", [(2, 0)], "m"), 12)
        self.fails(InvalidCell, lambda: full.divided("l", [(0, 0)], "m"), 0)
        self.fails(DuplicateName, lambda: full.divided("l", [(0, 0)], "a"), "a")

    def test_united(self):
        self.assertEqual(self.plat.united("b", "a"), Plat(rows_of("bbb", "bbb", "ccc"), road=[(0, 0), (2, 2)]))
        self.assertEqual(self.plat.united(second="b", first="c").rows(), rows_of("aaa", "aca", "ccc"))
        for value in any_values() + ["d"]:
            self.fails(UnknownParcel, lambda: self.plat.united(value, "zz"), value)
            self.fails(UnknownParcel, lambda: self.plat.united("a", value), value)
        self.fails(NotBeside, lambda: self.plat.united("a", "a"), "a", "a")
        line = Plat(rows_of("abc"))
        self.fails(NotBeside, lambda: line.united("c", "a"), "c", "a")
        self.fails(UnknownParcel, lambda: line.united("x", "a"), "x")
        self.assertEqual(line.rows(), rows_of("abc"))

    def test_mirrored(self):
        self.assertEqual(self.plat.mirrored(), Plat(rows_of("aaa", "aba", "ccc"), road=[(0, 2), (2, 0)]))
        plat = Plat(rows_of("aab"), road=[(0, 0)])
        self.assertEqual(plat.mirrored(), Plat(rows_of("baa"), road=[(0, 2)]))
        self.assertEqual(plat, Plat(rows_of("aab"), road=[(0, 0)]))

    def test_dividing_and_uniting_gives_the_former_plat(self):
        chance = random.Random(8)
        for _ in range(60):
            plat = random_plat(chance)
            self.assertEqual(plat.mirrored().mirrored(), plat)
            for name in plat.names():
                cells = [cell for cell in plat.cells(name) if chance.random() < 0.5]
                try:
                    new = plat.divided(name, cells, "zz")
                except (Apart, TooMany):
                    continue
                self.assertEqual(sorted(cells), new.cells("zz"))
                self.assertEqual(len(new), len(plat) + 1)
                self.assertEqual(new.united(name, "zz"), plat)


if __name__ == "__main__":
    unittest.main()
