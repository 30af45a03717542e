"""Whom an entry would hurt."""

from deedranks.hurts import hurt_persons


def hurt_by(office, entry):
    """The ascending list of the persons whom an entry hurts if it is put into an office."""
    after = office.tried(entry)
    return hurt_persons(office.roll().ranks(), after.ranks())
