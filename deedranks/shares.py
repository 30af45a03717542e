"""Shares: fractions in lowest terms."""

from math import gcd

from deedranks.errors import InvalidNumber, InvalidShare
from deedranks.words import is_whole, number_text, read_number


class Share:
    """The share top / bottom. It never changes."""

    def __init__(self, top, bottom=1):
        if not is_whole(top):
            raise InvalidNumber(top)
        if not is_whole(bottom) or bottom < 1:
            raise InvalidNumber(bottom)
        common = gcd(top, bottom)
        self.top = top // common
        self.bottom = bottom // common

    def __add__(self, other):
        if not isinstance(other, Share):
            return NotImplemented
        return Share(self.top * other.bottom + other.top * self.bottom, self.bottom * other.bottom)

    def __sub__(self, other):
        if not isinstance(other, Share):
            return NotImplemented
        return Share(self.top * other.bottom - other.top * self.bottom, self.bottom * other.bottom)

    def __mul__(self, other):
        if isinstance(other, Share):
            return Share(self.top * other.top, self.bottom * other.bottom)
        if not is_whole(other):
            return NotImplemented
        return Share(self.top * other, self.bottom)

    def __rmul__(self, other):
        if not is_whole(other):
            return NotImplemented
        return Share(other * self.top, self.bottom)

    def __eq__(self, other):
        return isinstance(other, Share) and self.top == other.top and self.bottom == other.bottom

    def __str__(self):
        if self.bottom == 1:
            return f"{number_text(self.top)}"
        return f"{number_text(self.top)}/{number_text(self.bottom)}"

    def __repr__(self):
        return f"Share({number_text(self.top)}, {number_text(self.bottom)})"

    def less(self, other):
        """Whether this share is below another one."""
        return self.top * other.bottom < other.top * self.bottom

    @staticmethod
    def read(text):
        """The share with a text."""
        share = _share_of_text(text) if isinstance(text, str) else None
        if share is None:
            raise InvalidShare(text)
        return share


def _share_of_text(text):
    head, stroke, tail = text.partition("/")
    top = read_number(head.removeprefix("-"))
    bottom = read_number(tail) if stroke else 1
    if top is None or not bottom:
        return None
    share = Share(-top if head.startswith("-") else top, bottom)
    # Only one text of a share is its text: this leaves out -0, 2/4, 3/1 and the like.
    return share if str(share) == text else None
