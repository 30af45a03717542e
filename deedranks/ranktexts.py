"""The texts of rank lists."""

from deedranks.claims import Claim
from deedranks.errors import InvalidText
from deedranks.ranks import RankList
from deedranks.words import is_amount, is_lot, is_name, number_text, read_number, text_lines


def ranks_text(ranks):
    """The text of a rank list."""
    return "".join([f"{claim_line(claim)}\n" for claim in ranks.claims()])


def claim_line(claim):
    """The line of a claim, without its line feed."""
    head = f"reserved {claim.name}" if claim.reserved else f"claim {claim.name} {claim.owner}"
    return " ".join([head, number_text(claim.amount), *claim.lot])


def read_ranks(text):
    """The rank list with a text."""
    if not isinstance(text, str):
        raise InvalidText(0, "form")
    claims = []
    for at, line in enumerate(text_lines(text)):
        claim = None if line is None else read_claim(line)
        if claim is None:
            raise InvalidText(at, "form")
        if at >= RankList.MOST:
            raise InvalidText(at, "many")
        if any([claim.name == other.name for other in claims]):
            raise InvalidText(at, "double")
        claims.append(claim)
    return RankList(*claims)


def read_claim(line):
    """The claim with a line, None if there is none."""
    words = line.split(" ")
    if words[0] == "claim" and len(words) >= 3:
        return _made_claim(words[1], words[2], words[3:])
    if words[0] == "reserved" and len(words) >= 2:
        return _made_claim(words[1], None, words[2:])
    return None


def _made_claim(name, owner, rest):
    """The claim whose amount and parcels the rest of the words tell."""
    amount = read_number(rest[0]) if rest != [] else None
    lot = tuple(rest[1:])
    if not is_name(name) or not (owner is None or is_name(owner)) or not is_amount(amount) or not is_lot(lot):
        return None
    return Claim(name, owner, amount, lot)
