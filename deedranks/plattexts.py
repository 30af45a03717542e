"""The texts of plats."""

from deedranks.cells import pieces
from deedranks.errors import InvalidText
from deedranks.plats import Plat, cells_by_name, edge_cells
from deedranks.words import is_name, text_lines

_MOST = 12


def plat_text(plat):
    """The text of a plat."""
    return "".join([f"{line}\n" for line in plat_lines(plat)])


def plat_lines(plat):
    """The lines of the text of a plat, without their line feeds."""
    road = plat.road()
    lines = []
    for row, names in enumerate(plat.rows()):
        words = [f"{name}*" if (row, column) in road else name for column, name in enumerate(names)]
        lines.append(" ".join(words))
    return lines


def read_plat(text):
    """The plat with a text."""
    if not isinstance(text, str) or text == "":
        raise InvalidText(0, "form")
    rows = []
    for at, line in enumerate(text_lines(text)):
        words = [] if line is None else line.split(" ")
        why = _wrong_line(rows, words)
        if why != "":
            raise InvalidText(at, why)
        rows.append(words)
    names = [[word.removesuffix("*") for word in words] for words in rows]
    road = [(row, column) for row, words in enumerate(rows) for column, word in enumerate(words) if word.endswith("*")]
    _check_road(road, edge_cells(len(rows), len(rows[0])))
    _check_apart(names)
    return Plat(names, road=road)


def _wrong_line(rows, words):
    """Which one of form, width and many is wrong with the words of the line behind rows; the empty string if none."""
    if words == [] or not all([is_name(word.removesuffix("*")) for word in words]):
        return "form"
    if len(words) > _MOST or (rows != [] and len(words) != len(rows[0])):
        return "width"
    if len(rows) >= _MOST or len({word.removesuffix("*") for row in [*rows, words] for word in row}) > _MOST:
        return "many"
    return ""


def _check_road(road, edge):
    for cell in road:
        if cell not in edge:
            raise InvalidText(cell[0], "inner")


def _check_apart(names):
    """Raises for the first cell that is not in the piece of its parcel that has the parcel's first cell."""
    cells = cells_by_name(names)
    wrong = [cell for name in cells for group in pieces(cells[name])[1:] for cell in group]
    if wrong != []:
        raise InvalidText(min(wrong)[0], "apart")
