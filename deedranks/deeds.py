"""Deeds: what is done to the records, as tuples of a word and its items."""

from deedranks.cells import is_cell
from deedranks.titles import are_heirs, is_given_share
from deedranks.words import is_day, is_entry_number, is_lot, is_name, is_number

# The kinds of the items behind each word.
_KINDS = {
    "sale": ("lot", "name", "name", "share", "knew"), "gift": ("lot", "name", "name", "share"),
    "heirs": ("name", "heirs"), "void": ("number",), "uphold": ("number",), "divide": ("name", "cells", "name"),
    "unite": ("name", "name"), "grant": ("name", "name", "lot", "knew"), "waive": ("name", "name"),
    "charge": ("name", "name", "amount", "lot", "lot", "knew"),
    "reserve": ("name", "amount", "lot", "day", "lot", "knew"), "fill": ("name", "name"),
    "repay": ("name", "amount"), "assign": ("name", "name"), "part": ("name", "amount", "name"), "merge": ("name",),
    "release": ("name", "name"), "extend": ("name", "name", "lot", "knew"), "yield": ("name", "name"),
    "trade": ("name", "name"), "strike": ("number",), "instead": ("number", "deed"),
}
# The places of the two names that must differ.
_APART = {
    "sale": (2, 3), "gift": (2, 3), "divide": (1, 3), "unite": (1, 2), "grant": (1, 2), "waive": (1, 2),
    "part": (1, 3), "yield": (1, 2), "trade": (1, 2),
}
_CORRECTIONS = ("strike", "instead")
_MOST_AMOUNT = 10 ** 12 - 1
_MOST_BOTTOM = 60


def is_deed(value):
    """Whether any value is a deed."""
    if not isinstance(value, tuple) or len(value) == 0 or not isinstance(value[0], str):
        return False
    kinds = item_kinds(value[0])
    if kinds is None or len(value) != len(kinds) + 1:
        return False
    if not all([_is_item(kind, item) for kind, item in zip(kinds, value[1:])]):
        return False
    if value[0] in _APART:
        first, second = _APART[value[0]]
        return value[first] != value[second]
    return value[0] != "heirs" or are_heirs(value[1], value[2])


def is_correction(value):
    """Whether any value is a correction."""
    return is_deed(value) and value[0] in _CORRECTIONS


def item_kinds(word):
    """The kinds of the items behind a word, None if no deed has this word."""
    return _KINDS.get(word)


def _is_item(kind, value):
    """Whether any value is an item of a kind."""
    if kind == "name":
        return is_name(value)
    if kind == "lot":
        return is_lot(value)
    if kind == "share":
        return is_given_share(value) and value.bottom <= _MOST_BOTTOM
    if kind == "knew":
        return value is True or value is False
    if kind == "number":
        return is_entry_number(value)
    if kind == "amount":
        return is_number(value, 1, _MOST_AMOUNT)
    if kind == "day":
        return is_day(value)
    if kind == "cells":
        return _are_cells(value)
    if kind == "heirs":
        return isinstance(value, tuple)
    return _is_plain_deed(value)


def _are_cells(value):
    """Whether any value is a tuple of different cells."""
    if not isinstance(value, tuple) or not all([is_cell(cell) for cell in value]):
        return False
    return 1 <= len(value) == len(set(value))


def _is_plain_deed(value):
    """Whether any value is a deed, but no correction. The word comes first, so insteads are not followed inwards."""
    if not isinstance(value, tuple) or len(value) == 0 or value[0] in _CORRECTIONS:
        return False
    return is_deed(value)
