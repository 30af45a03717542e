"""Cells, pieces, sides, corners and holes: [5] and [6]."""

import random
import unittest

from deedranks.cells import beside, check_cells, corner_counts, hangs_together, holes, is_cell, pieces, side_count
from deedranks.errors import InvalidCell
from support import Case, any_values

ALL = [(row, column) for row in range(12) for column in range(12)]
SET_CALLS = (check_cells, hangs_together, pieces, side_count, corner_counts, holes)


def drawn(*rows):
    """The cells at the signs # of some rows."""
    return [(row, column) for row, line in enumerate(rows) for column, sign in enumerate(line) if sign == "#"]


def touching(cells, corners):
    """Plain groups: cells that share a side, or a point too, are joined until nothing changes."""
    groups = [[cell] for cell in cells]
    joined = True
    while joined:
        joined = False
        for left in groups:
            for right in groups:
                if left is not right and any(near(one, two, corners) for one in left for two in right):
                    left.extend(right)
                    groups.remove(right)
                    joined = True
                    break
            if joined:
                break
    return sorted(sorted(group) for group in groups)


def near(one, two, corners):
    down, right = abs(one[0] - two[0]), abs(one[1] - two[1])
    return max(down, right) == 1 if corners else down + right == 1


def plain_corners(cells):
    outer = inner = 0
    for row in range(13):
        for column in range(13):
            held = [place for place in ((row - 1, column - 1), (row - 1, column), (row, column - 1), (row, column))
                    if place in cells]
            if len(held) == 1:
                outer += 1
            if len(held) == 2 and held[0][0] != held[1][0] and held[0][1] != held[1][1]:
                outer += 2
            if len(held) == 3:
                inner += 1
    return outer, inner


def random_sets(many):
    chance = random.Random(5)
    for _ in range(many):
        height, width = chance.choice([(3, 3), (4, 4), (5, 6), (12, 4), (3, 12), (6, 6)])
        down, right = chance.randrange(13 - height), chance.randrange(13 - width)
        density = chance.choice([0.2, 0.5, 0.7, 0.9])
        cells = [(down + row, right + column) for row in range(height) for column in range(width)
                 if chance.random() < density]
        chance.shuffle(cells)
        yield cells


class Single(Case):
    def test_what_is_a_cell(self):
        for cell in ((0, 0), (11, 11), (0, 11), (11, 0), (5, 6)):
            self.assertIs(is_cell(cell), True)
            self.assertIs(is_cell(value=cell), True)
        for value in any_values() + [(12, 0), (0, 12), (-1, 3), (3, -1), (True, 1), (1, False), [1, 1], (1, 1, 1), (1,)]:
            self.assertIs(is_cell(value), False)

    def test_cells_beside(self):
        self.assertEqual(beside((5, 5)), [(4, 5), (5, 4), (5, 6), (6, 5)])
        self.assertEqual(beside(cell=(0, 0)), [(0, 1), (1, 0)])
        self.assertEqual(beside((11, 11)), [(10, 11), (11, 10)])
        for cell in ALL:
            self.assertEqual(beside(cell), [other for other in ALL if near(cell, other, False)])


class Wrong(Case):
    def test_each_function_checks_its_cells(self):
        for call in SET_CALLS:
            for value in any_values():
                if not isinstance(value, (list, tuple)):
                    self.fails(InvalidCell, lambda: call(value), -1)
                for good in ([], [(0, 0)], [(11, 11), (0, 5)]):
                    self.fails(InvalidCell, lambda: call(good + [value]), len(good))
                    self.fails(InvalidCell, lambda: call(tuple(good) + (value, (1, 1), "x")), len(good))
                    self.fails(InvalidCell, lambda: call(cells=good + [value]), len(good))
            self.fails(InvalidCell, lambda: call({(0, 0): 1}), -1)
            self.fails(InvalidCell, lambda: call([(0, 0), (1, 1), (0, 0), "x"]), 2)
            self.fails(InvalidCell, lambda: call([(0, 0), (12, 1), (0, 0)]), 1)
            self.fails(InvalidCell, lambda: call([(True, 0)]), 0)
            self.fails(InvalidCell, lambda: call([(1, 0), (True, 0)]), 1)

    def test_good_ones_pass(self):
        for cells in ([], (), [(0, 0)], ((3, 4), (0, 1)), ALL):
            self.assertIsNone(check_cells(cells))


class Sets(Case):
    def test_the_empty_set(self):
        for cells in ([], ()):
            found = [hangs_together(cells), pieces(cells), side_count(cells), corner_counts(cells), holes(cells)]
            self.same(found, [False, [], 0, (0, 0), []])

    def test_one_cell(self):
        for cell in ((0, 0), (11, 11), (0, 6), (4, 4)):
            found = [hangs_together([cell]), pieces([cell]), side_count([cell]), corner_counts([cell]), holes([cell])]
            self.same(found, [True, [[cell]], 4, (4, 0), []])

    def test_pieces_that_touch_at_a_point_alone(self):
        cells = [(1, 1), (0, 0)]
        self.assertFalse(hangs_together(cells))
        self.same([pieces(cells), side_count(cells), corner_counts(cells)], [[[(0, 0)], [(1, 1)]], 8, (8, 0)])
        cells = drawn("#.", ".#", "##")
        self.assertEqual(pieces(cells), [[(0, 0)], [(1, 1), (2, 0), (2, 1)]])
        self.assertEqual(corner_counts(drawn(".#", "#.")), (8, 0))

    def test_pieces_are_ordered_by_their_first_cells(self):
        cells = drawn("..#", "#.#", "#.#")[::-1]
        self.assertEqual(pieces(cells), [[(0, 2), (1, 2), (2, 2)], [(1, 0), (2, 0)]])

    def test_inner_corners(self):
        self.assertEqual(corner_counts(drawn("#.", "##")), (5, 1))
        self.assertEqual(corner_counts(drawn("###", "#.#", "###")), (4, 4))
        self.assertEqual(corner_counts(ALL), (4, 0))

    def test_holes_within_one_another(self):
        ring = drawn("............", ".#######....", ".#.....#....", ".#.###.#....", ".#.#.#.#....", ".#.###.#....",
                     ".#.....#....", ".#######....")
        inner = [(4, 4)]
        middle = [(row, column) for row in range(2, 7) for column in range(2, 7) if (row, column) not in ring + inner]
        self.assertEqual(holes(ring), [middle, inner])
        self.assertEqual(len(pieces(ring)), 2)
        self.assertEqual(corner_counts(ring)[0] - corner_counts(ring)[1], 0)

    def test_holes_are_joined_at_points(self):
        cells = drawn("####", "#.##", "##.#", "####")
        self.assertEqual(holes(cells), [[(1, 1), (2, 2)]])
        # A gap at a corner lets the inside out.
        self.assertEqual(holes(drawn(".....", ".###.", ".#.#.", ".##..")), [])
        self.assertEqual(holes(drawn(".....", ".###.", ".#.#.", ".###.")), [[(2, 2)]])

    def test_gaps_at_the_rows_and_columns_0_and_11_are_no_holes(self):
        self.assertEqual(holes([(0, 1), (1, 0), (1, 1)]), [])
        self.assertEqual(holes([(11, 10), (10, 11), (10, 10)]), [])
        self.assertEqual(holes([(0, 4), (1, 4), (1, 5), (1, 6), (0, 6)]), [])
        self.assertEqual(holes([cell for cell in ALL if cell != (1, 1)]), [[(1, 1)]])
        self.assertEqual(holes([cell for cell in ALL if cell != (10, 10)]), [[(10, 10)]])
        for cell in ((0, 5), (11, 5), (5, 0), (5, 11)):
            self.assertEqual(holes([other for other in ALL if other != cell]), [])
        self.assertEqual(holes([other for other in ALL if other not in ((0, 5), (1, 6))]), [])

    def test_against_plain_ways_to_find_the_same(self):
        for cells in random_sets(120):
            before = list(cells)
            found = touching(cells, False)
            self.same(pieces(cells), found)
            self.assertIs(hangs_together(cells), len(found) == 1)
            self.assertEqual(corner_counts(cells), plain_corners(cells))
            sides = sum(1 for cell in cells for down, right in ((1, 0), (-1, 0), (0, 1), (0, -1))
                        if (cell[0] + down, cell[1] + right) not in cells)
            self.assertEqual(side_count(cells), sides)
            self.assertEqual(cells, before)

    def test_holes_against_plain_groups(self):
        for cells in random_sets(12):
            groups = touching([cell for cell in ALL if cell not in cells], True)
            closed = [group for group in groups if not any(row in (0, 11) or column in (0, 11) for row, column in group)]
            self.same(holes(cells), closed)

    def test_four_times_pieces_less_holes(self):
        for cells in random_sets(300):
            outer, inner = corner_counts(cells)
            self.assertEqual(outer - inner, 4 * (len(pieces(cells)) - len(holes(cells))))

    def test_tuples_and_names_of_arguments(self):
        for call in SET_CALLS[1:]:
            self.assertEqual(call(cells=((0, 0), (0, 1))), call([(0, 1), (0, 0)]))

    def test_what_is_returned_is_new(self):
        cells = drawn("###", "#.#", "###", "....", "####")
        for call in (pieces, holes):
            first = call(cells)
            for group in first:
                group.clear()
            first.append("x")
            self.assertNotIn("x", call(cells))
            self.assertTrue(all(call(cells)))


if __name__ == "__main__":
    unittest.main()
