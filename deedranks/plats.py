"""Plats: maps of parcels, with road cells at the edge."""

from deedranks.cells import beside, check_cells_of, corner_counts, hangs_together, holes, is_cell, side_count
from deedranks.errors import Apart, DuplicateName, InvalidName, InvalidNumber, InvalidRow, NotBeside
from deedranks.errors import TooMany, UnknownParcel
from deedranks.words import is_name, is_number


class Plat:
    """A map. It never changes."""

    MOST = 12

    def __init__(self, rows, *, road=()):
        _check_rows(rows)
        self.height = len(rows)
        self.width = len(rows[0])
        self._rows = [list(row) for row in rows]
        self._cells = cells_by_name(self._rows)
        if len(self._cells) > Plat.MOST:
            raise TooMany(Plat.MOST)
        for name in self._cells:
            if not hangs_together(self._cells[name]):
                raise Apart(name)
        check_cells_of(edge_cells(self.height, self.width), road)
        self._road = sorted(road)

    def __contains__(self, x):
        return is_name(x) and x in self._cells

    def __eq__(self, other):
        return isinstance(other, Plat) and self._rows == other._rows and self._road == other._road

    def __len__(self):
        return len(self._cells)

    def __repr__(self):
        return f"Plat({len(self._cells)} parcels)"

    @staticmethod
    def single(name, height, width):
        """The plat with one parcel and no road cells."""
        if not is_name(name):
            raise InvalidName(name)
        for size in (height, width):
            if not is_number(size, 1, 12):
                raise InvalidNumber(size)
        return Plat([[name] * width] * height)

    def rows(self):
        """The list of the lists of the parcels of the cells of each row."""
        return [list(row) for row in self._rows]

    def road(self):
        """The ascending list of the road cells."""
        return list(self._road)

    def names(self):
        """The ascending list of the parcels."""
        return list(self._cells)

    def parcel_at(self, cell):
        """The parcel of a cell, None for any value that is no cell of the plat."""
        if not is_cell(cell) or cell[0] >= self.height or cell[1] >= self.width:
            return None
        return self._rows[cell[0]][cell[1]]

    def cells(self, name):
        """The ascending list of the cells of a parcel."""
        return list(self._cells_of(name))

    def area(self, name):
        """The number of the cells of a parcel."""
        return len(self._cells_of(name))

    def rim(self, name):
        """The number of the sides of a parcel at the outside of the plat."""
        return self.outline(name) - sum([self.border(name, other) for other in self._cells])

    def outline(self, name):
        """The number of the sides of a parcel."""
        return side_count(self._cells_of(name))

    def corners(self, name):
        """The numbers of the outer and of the inner corners of a parcel."""
        return corner_counts(self._cells_of(name))

    def hole_count(self, name):
        """The number of the holes of a parcel."""
        return len(holes(self._cells_of(name)))

    def neighbours(self, name):
        """The ascending list of the neighbours of a parcel."""
        return sorted({other for other in self._names_beside(name) if other != name})

    def fronts(self, name):
        """Whether a parcel fronts the road."""
        return any([cell in self._road for cell in self._cells_of(name)])

    def border(self, first, second):
        """The number of sides between two parcels, 0 for one parcel twice."""
        for name in (first, second):
            self._cells_of(name)
        if first == second:
            return 0
        return self._names_beside(first).count(second)

    def divided(self, name, cells, new):
        """The plat in which some cells of a parcel form a new parcel."""
        own = self._cells_of(name)
        if not is_name(new):
            raise InvalidName(new)
        if new in self:
            raise DuplicateName(new)
        check_cells_of(own, cells)
        if len(self) >= Plat.MOST:
            raise TooMany(Plat.MOST)
        if not hangs_together(cells):
            raise Apart(new)
        if not hangs_together([cell for cell in own if cell not in cells]):
            raise Apart(name)
        rows = self.rows()
        for row, column in cells:
            rows[row][column] = new
        return Plat(rows, road=self._road)

    def united(self, first, second):
        """The plat in which two neighbours form the first one of them."""
        if self.border(first, second) == 0:
            raise NotBeside(first, second)
        rows = [[first if name == second else name for name in row] for row in self._rows]
        return Plat(rows, road=self._road)

    def mirrored(self):
        """The plat with the cells of each row in the reverse order."""
        road = [(row, self.width - 1 - column) for row, column in self._road]
        return Plat([row[::-1] for row in self._rows], road=road)

    def _cells_of(self, name):
        if name not in self:
            raise UnknownParcel(name)
        return self._cells[name]

    def _names_beside(self, name):
        """The parcels behind the sides of a parcel that are not at the outside, one for each side of a cell."""
        near = [self.parcel_at(other) for cell in self._cells_of(name) for other in beside(cell)]
        return [other for other in near if other is not None]


def edge_cells(height, width):
    """The ascending list of the cells at the edge of a plat of this size."""
    cells = [(row, column) for row in range(height) for column in range(width)]
    return [(row, column) for row, column in cells if row in (0, height - 1) or column in (0, width - 1)]


def cells_by_name(rows):
    """A dict, ascending, from the names in rows to the ascending lists of their cells."""
    found = {}
    for row, names in enumerate(rows):
        for column, name in enumerate(names):
            found.setdefault(name, []).append((row, column))
    return {name: found[name] for name in sorted(found)}


def _check_rows(rows):
    if not isinstance(rows, (list, tuple)) or not 1 <= len(rows) <= 12:
        raise InvalidRow(-1)
    for at, row in enumerate(rows):
        if not _is_row(row) or len(row) != len(rows[0]):
            raise InvalidRow(at)


def _is_row(value):
    if not isinstance(value, (list, tuple)) or not 1 <= len(value) <= 12:
        return False
    return all([is_name(name) for name in value])
