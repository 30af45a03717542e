"""The statement of a rank list: what each claim is owed, and what it gets."""

from deedranks.totals import totals
from deedranks.words import number_text


def statement(ranks, prices):
    """A line for each claim, by ranks."""
    got = dict(totals(ranks, prices))
    for rank, claim in enumerate(ranks.claims(), start=1):
        owner = "-" if claim.reserved else claim.owner
        amount = _grouped(claim.amount)
        total = _grouped(got[claim.name])
        yield f"{rank:>3} {claim.name:<6} {owner:<6} {amount:>14} {total:>14}"


def _grouped(number):
    """The digits of a number from 0 on, with commas between groups of three."""
    digits = number_text(number)
    first = len(digits) % 3
    groups = [digits[at:at + 3] for at in range(first, len(digits), 3)]
    return ",".join([digits[:first], *groups] if first > 0 else groups)
