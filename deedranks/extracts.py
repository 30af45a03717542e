"""The texts of rolls, and extracts for single parcels."""

from deedranks.plattexts import plat_lines
from deedranks.ranktexts import claim_line
from deedranks.words import number_text


def roll_text(roll):
    """The text of a roll."""
    titles = roll.titles()
    lines = [f"day {roll.present_day}"]
    lines.extend([f"row {line}" for line in plat_lines(roll.plat)])
    for parcel in titles.parcels():
        lines.extend([f"owner {parcel} {person} {share}" for person, share in titles.owners(parcel)])
    lines.extend([f"step {start} {over}" for start, over in roll.grants()])
    lines.extend([claim_line(claim) for claim in roll.ranks().claims()])
    return _text_of(lines)


def extract(roll, parcel):
    """The extract of a parcel."""
    lines = [f"parcel {parcel} {roll.plat.area(parcel)}"]
    lines.extend([f"owner {person} {share}" for person, share in roll.titles().owners(parcel)])
    for rank, claim in enumerate(roll.ranks().claims(), start=1):
        if parcel in claim.lot:
            owner = "-" if claim.reserved else claim.owner
            lines.append(f"rank {rank} {claim.name} {owner} {number_text(claim.amount)}")
    lines.extend([f"passage {start}" for start, over in roll.grants() if over == parcel])
    return _text_of(lines)


def _text_of(lines):
    return "".join([f"{line}\n" for line in lines])
