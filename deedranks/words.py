"""The words and numbers that records are made of, as values and as texts."""

# Python refuses to write a number of more than 4300 digits at once, so longer ones are written in blocks.
_DIGITS = 60
_BLOCK = 10 ** 60
_MOST_DIGITS = 12


def is_whole(value):
    """Whether any value is a number; True and False are none."""
    return isinstance(value, int) and not isinstance(value, bool)


def is_number(value, least, most):
    """Whether any value is a number from least to most."""
    return is_whole(value) and least <= value <= most


def is_name(value):
    """Whether any value is a name."""
    return isinstance(value, str) and len(value) <= 6 and value.isascii() and value.isalpha() and value.islower()


def is_ascending(values):
    """Whether names, or tuples of names, are in ascending order without duplicates."""
    return list(values) == sorted(set(values))


def is_lot(value):
    """Whether any value is a lot."""
    if not isinstance(value, tuple) or not 1 <= len(value) <= 12:
        return False
    return all([is_name(name) for name in value]) and is_ascending(value)


def is_amount(value):
    """Whether any value is an amount."""
    return is_whole(value) and value >= 1


def is_price(value):
    """Whether any value is a price."""
    return is_whole(value) and value >= 0


def is_day(value):
    """Whether any value is a day."""
    return is_number(value, 0, 9999)


def is_entry_number(value):
    """Whether any value is an entry number."""
    return is_number(value, 1, 999)


def number_text(number):
    """The digits of a number of any size, with its sign."""
    if number < 0:
        return f"-{number_text(-number)}"
    blocks = []
    while number >= _BLOCK:
        number, block = divmod(number, _BLOCK)
        blocks.append(str(block).zfill(_DIGITS))
    blocks.append(str(number))
    return "".join(blocks[::-1])


def read_number(text):
    """The number from 0 on with this text; None if there is none, or with more than 12 digits."""
    if not (text.isascii() and text.isdigit()) or len(text) > _MOST_DIGITS:
        return None
    if text.startswith("0") and text != "0":
        return None
    return int(text)


def text_lines(text):
    """The lines of a text without their line feeds, and None for a last one that lacks it."""
    *lines, rest = text.split("\n")
    if rest == "":
        return lines
    return [*lines, None]
