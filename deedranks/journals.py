"""The texts of journals."""

from deedranks.entries import entry_text, read_entry
from deedranks.errors import InvalidText
from deedranks.office import Office
from deedranks.words import text_lines


def journal_text(office):
    """The text of the journal of an office."""
    return "".join([f"{entry_text(entry)}\n" for entry in office.entries()])


def read_journal(plat, owners, text):
    """An office with the entries of a text, on the day 0."""
    office = Office(plat, owners)
    if not isinstance(text, str):
        raise InvalidText(0, "form")
    for at, line in enumerate(text_lines(text)):
        entry = None if line is None else read_entry(line)
        why = _wrong_line(office.entries(), entry)
        if why != "":
            raise InvalidText(at, why)
        office.put(entry)
    return office


def _wrong_line(ahead, entry):
    """Which one of form, many, order and days is wrong with an entry behind others; the empty string if none."""
    if entry is None:
        return "form"
    if len(ahead) >= Office.MOST:
        return "many"
    if ahead != [] and entry.number <= ahead[-1].number:
        return "order"
    if ahead != [] and entry.entered < ahead[-1].entered:
        return "days"
    return ""
