"""The texts of deeds."""

from deedranks.deeds import is_deed, item_kinds
from deedranks.errors import InvalidShare
from deedranks.shares import Share
from deedranks.words import number_text, read_number


def deed_text(deed):
    """The text of a deed."""
    word, *items = deed
    return " ".join([word, *[_item_text(kind, item) for kind, item in zip(item_kinds(word), items)]])


def read_deed(text):
    """The deed with a text; None for any value that is no text of a deed."""
    if not isinstance(text, str):
        return None
    word, *texts = text.split(" ")
    if word == "instead":
        # Behind the number the text of a whole deed is one item.
        texts = [*texts[:1], " ".join(texts[1:])]
    kinds = item_kinds(word)
    if kinds is None or len(texts) != len(kinds):
        return None
    items = [_read_item(kind, item) for kind, item in zip(kinds, texts)]
    deed = (word, *items)
    return deed if is_deed(deed) else None


def _item_text(kind, item):
    if kind == "name":
        return item
    if kind == "lot":
        return ",".join(item)
    if kind == "share":
        return str(item)
    if kind == "knew":
        return "knew" if item else "good"
    if kind == "cells":
        return ",".join([f"{row}.{column}" for row, column in item])
    if kind == "heirs":
        return ",".join([f"{name}:{weight}" for name, weight in item])
    if kind == "deed":
        return deed_text(item)
    return number_text(item)


def _read_item(kind, text):
    """The item of a kind with a text. Where there is none, it may be any value that is no such item."""
    if kind == "name":
        return text
    if kind == "lot":
        return tuple(text.split(","))
    if kind == "share":
        return _read_share(text)
    if kind == "knew":
        return text == "knew" if text in ("knew", "good") else None
    if kind == "cells":
        return tuple([_read_cell(cell) for cell in text.split(",")])
    if kind == "heirs":
        return tuple([_read_heir(heir) for heir in text.split(",")])
    if kind == "deed":
        # No instead stands in an instead, however deep a text goes.
        return None if text.startswith("instead ") else read_deed(text)
    return read_number(text)


def _read_share(text):
    try:
        return Share.read(text)
    except InvalidShare:
        return None


def _read_cell(text):
    row, _, column = text.partition(".")
    return (read_number(row), read_number(column))


def _read_heir(text):
    name, _, weight = text.partition(":")
    return (name, read_number(weight))
