"""Parcels that one person owns alone, and what right plans leave of them."""

from deedranks.leaving import left


def sole_parcels(roll, person):
    """The ascending list of the parcels that a person owns alone."""
    titles = roll.titles()
    return [parcel for parcel in titles.parcels() if [owner for owner, _ in titles.owners(parcel)] == [person]]


def sole_left(roll, prices, person):
    """The least and the greatest number that right plans of the rank list leave of these parcels."""
    return left(roll.ranks(), prices, sole_parcels(roll, person))
