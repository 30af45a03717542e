"""Cells, and what sets of cells look like: pieces, sides, corners and holes."""

from deedranks.errors import InvalidCell
from deedranks.words import is_number

_LAST = 11


def is_cell(value):
    """Whether any value is a cell."""
    if not isinstance(value, tuple) or len(value) != 2:
        return False
    return is_number(value[0], 0, _LAST) and is_number(value[1], 0, _LAST)


def beside(cell):
    """The ascending list of the cells beside a cell."""
    row, column = cell
    near = [(row - 1, column), (row, column - 1), (row, column + 1), (row + 1, column)]
    return [other for other in near if is_cell(other)]


def check_cells(cells):
    """Raises InvalidCell unless these are different cells."""
    check_cells_of(_all_cells(), cells)


def check_cells_of(allowed, cells):
    """Raises InvalidCell unless these are different cells out of the allowed ones."""
    if not isinstance(cells, (list, tuple)):
        raise InvalidCell(-1)
    free = {cell: True for cell in allowed}
    for at, cell in enumerate(cells):
        if not is_cell(cell) or cell not in free:
            raise InvalidCell(at)
        del free[cell]


def hangs_together(cells):
    """Whether a set of cells hangs together; the empty one does not."""
    return len(pieces(cells)) == 1


def pieces(cells):
    """The ascending lists of the cells of each piece, ordered by their first cells."""
    check_cells(cells)
    return _groups(cells, beside)


def side_count(cells):
    """The number of the sides of a set of cells."""
    check_cells(cells)
    inside = {cell: True for cell in cells}
    return sum([4 - len([other for other in beside(cell) if other in inside]) for cell in cells])


def corner_counts(cells):
    """The numbers of the outer and of the inner corners of a set of cells."""
    check_cells(cells)
    inside = {cell: True for cell in cells}
    outer = 0
    inner = 0
    for row in range(_LAST + 2):
        for column in range(_LAST + 2):
            places = [(row - 1, column - 1), (row - 1, column), (row, column - 1), (row, column)]
            held = [place in inside for place in places]
            many = held.count(True)
            if many == 1:
                outer += 1
            # Of two places, those that share no side stand across: the first and the last one, or the others.
            elif many == 2 and held[0] == held[3]:
                outer += 2
            elif many == 3:
                inner += 1
    return outer, inner


def holes(cells):
    """The ascending lists of the cells of each hole, ordered by their first cells."""
    check_cells(cells)
    inside = {cell: True for cell in cells}
    empty = [cell for cell in _all_cells() if cell not in inside]
    return [group for group in _groups(empty, _around) if not any([_at_end(cell) for cell in group])]


def _all_cells():
    return [(row, column) for row in range(_LAST + 1) for column in range(_LAST + 1)]


def _around(cell):
    row, column = cell
    return [(row + down, column + right) for down in (-1, 0, 1) for right in (-1, 0, 1)]


def _at_end(cell):
    return cell[0] in (0, _LAST) or cell[1] in (0, _LAST)


def _groups(cells, near):
    """The ascending lists of cells that near leads to from one another, ordered by their first cells."""
    free = {cell: True for cell in cells}
    groups = []
    for first in sorted(cells):
        if first in free:
            group = _reached_in(free, first, near)
            for cell in group:
                del free[cell]
            groups.append(group)
    return groups


def _reached_in(free, first, near):
    found = {first: True}
    waiting = [first]
    while waiting:
        cell = waiting.pop()
        for other in near(cell):
            if other in free and other not in found:
                found[other] = True
                waiting.append(other)
    return sorted(found)
