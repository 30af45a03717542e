"""Entries of a journal: deeds with the days on which they were done and entered."""

from deedranks.deeds import is_deed
from deedranks.deedtexts import deed_text, read_deed
from deedranks.errors import InvalidDay, InvalidDeed, InvalidNumber
from deedranks.words import is_day, is_entry_number, number_text, read_number


class Entry:
    """An entry. It never changes."""

    def __init__(self, number, done, entered, deed):
        if not is_entry_number(number):
            raise InvalidNumber(number)
        if not is_day(done):
            raise InvalidDay(done)
        if not is_day(entered) or entered < done:
            raise InvalidDay(entered)
        if not is_deed(deed):
            raise InvalidDeed(0)
        named = _named_numbers(deed)
        for above, value in zip([number, *named], named):
            if value >= above:
                raise InvalidNumber(value)
        self.number = number
        self.done = done
        self.entered = entered
        self.deed = deed

    def __eq__(self, other):
        return (isinstance(other, Entry) and self.number == other.number and self.done == other.done
                and self.entered == other.entered and self.deed == other.deed)

    def __str__(self):
        return f"{entry_text(self)}"

    def __repr__(self):
        return f"Entry({entry_text(self)})"


def entry_text(entry):
    """The text of an entry."""
    numbers = [number_text(number) for number in (entry.number, entry.done, entry.entered)]
    return " ".join([*numbers, deed_text(entry.deed)])


def read_entry(text):
    """The entry with a text; None for any value that is no text of an entry."""
    if not isinstance(text, str):
        return None
    words = text.split(" ")
    numbers = [read_number(word) for word in words[:3]]
    if len(numbers) < 3:
        return None
    number, done, entered = numbers
    try:
        return Entry(number, done, entered, read_deed(" ".join(words[3:])))
    except (InvalidNumber, InvalidDay, InvalidDeed):
        return None


def _named_numbers(deed):
    """The list of the entry numbers in a deed, from the outside."""
    if deed[0] == "instead":
        return [deed[1], *_named_numbers(deed[2])]
    return [deed[1]] if deed[0] in ("void", "uphold", "strike") else []
