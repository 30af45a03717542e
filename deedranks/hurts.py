"""Whom a rank deed can hurt, and at which prices."""

from deedranks.alike import price_rows
from deedranks.errors import NoLeave
from deedranks.rankdeeds import changed
from deedranks.signs import signs
from deedranks.totals import pays


def hurt_prices(before, after, person):
    """The first price row at which a person has a lower pay in the second rank list, None if there is none."""
    for prices in price_rows(before, after):
        if pays(after, prices).get(person, 0) < pays(before, prices).get(person, 0):
            return prices
    return None


def hurt_persons(before, after):
    """The ascending list of the persons who are hurt from one rank list to another one."""
    hurt = {}
    for prices in price_rows(before, after):
        old = pays(before, prices)
        new = pays(after, prices)
        for person in old:
            if new.get(person, 0) < old[person]:
                hurt[person] = True
    return sorted(hurt)


def leaves(ranks, deed):
    """The ascending list of the persons whose leave a rank deed needs."""
    told = signs(ranks, deed)
    # These signs tell that nobody has less at any prices, also where there are too many price rows to try.
    if all([told[person] in ("same", "more") for person in told]):
        return []
    return hurt_persons(ranks, changed(ranks, deed))


def with_leave(ranks, deed, *persons):
    """The rank list behind a rank deed, with the leave of these persons."""
    needed = leaves(ranks, deed)
    after = changed(ranks, deed)
    for person in needed:
        if person not in persons:
            raise NoLeave(person, hurt_prices(ranks, after, person))
    return after
