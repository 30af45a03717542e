"""Rank deeds: changes of a rank list."""

from deedranks.claims import Claim
from deedranks.errors import Behind, DuplicateName, InsideLot, InvalidAmount, InvalidClaim, InvalidDeed, InvalidName
from deedranks.errors import InvalidNumber, NotReserved, OutsideLot, Reserved, TooMany, Unequal, Unlike
from deedranks.ranks import RankList, owned_claim
from deedranks.words import is_name, is_number

_MOST_PARCELS = 12


def changed(ranks, deed):
    """The rank list behind a rank deed."""
    if not isinstance(deed, tuple) or len(deed) == 0:
        raise InvalidDeed(0)
    word, *rest = deed
    if not isinstance(word, str) or word not in _ACTIONS or len(rest) != _SIZES[word]:
        raise InvalidDeed(0)
    action = _ACTIONS[word]
    claims = action(ranks, *rest)
    return RankList(*claims)


def _enter(ranks, claim, at):
    if not isinstance(claim, Claim):
        raise InvalidClaim(0)
    _check_room(ranks)
    if claim.name in ranks:
        raise DuplicateName(claim.name)
    if not is_number(at, 1, len(ranks) + 1):
        raise InvalidNumber(at)
    claims = ranks.claims()
    claims.insert(at - 1, claim)
    return claims


def _cancel(ranks, name):
    return _replaced(ranks, name, [])


def _repay(ranks, name, many):
    claim = ranks.claim(name)
    if not is_number(many, 1, claim.amount):
        raise InvalidAmount(many)
    if many == claim.amount:
        return _replaced(ranks, name, [])
    return _replaced(ranks, name, [claim.with_amount(claim.amount - many)])


def _assign(ranks, name, person):
    claim = owned_claim(ranks, name)
    _check_name(person)
    return _replaced(ranks, name, [claim.with_owner(person)])


def _fill(ranks, name, person):
    claim = ranks.claim(name)
    if not claim.reserved:
        raise NotReserved(name)
    _check_name(person)
    return _replaced(ranks, name, [claim.with_owner(person)])


def _part(ranks, name, many, new):
    claim = ranks.claim(name)
    if not is_number(many, 1, claim.amount - 1):
        raise InvalidAmount(many)
    _check_room(ranks)
    _check_name(new)
    if new in ranks:
        raise DuplicateName(new)
    rest = Claim(new, claim.owner, claim.amount - many, claim.lot)
    return _replaced(ranks, name, [claim.with_amount(many), rest])


def _merge(ranks, name):
    claim = ranks.claim(name)
    behind = ranks.claims()[ranks.rank(name):]
    if behind == [] or behind[0].owner != claim.owner or behind[0].lot != claim.lot:
        raise Unlike(name)
    claims = _replaced(ranks, name, [claim.with_amount(claim.amount + behind[0].amount)])
    del claims[ranks.rank(name)]
    return claims


def _release(ranks, name, parcel):
    claim = ranks.claim(name)
    if parcel not in claim.lot:
        raise OutsideLot(parcel)
    if len(claim.lot) == 1:
        return _replaced(ranks, name, [])
    return _replaced(ranks, name, [claim.with_lot(_lot_without(claim.lot, parcel))])


def _extend(ranks, name, parcel):
    claim = ranks.claim(name)
    _check_name(parcel)
    if parcel in claim.lot:
        raise InsideLot(parcel)
    if len(claim.lot) >= _MOST_PARCELS:
        raise TooMany(_MOST_PARCELS)
    return _replaced(ranks, name, [claim.with_lot(_lot_with(claim.lot, parcel))])


def _yield_rank(ranks, elder, younger):
    _check_order(ranks, elder, younger)
    first = ranks.claim(elder)
    second = ranks.claim(younger)
    for claim in (first, second):
        if claim.reserved:
            raise Reserved(claim.name)
    if first.amount != second.amount:
        raise Unequal(elder, younger)
    return _exchanged(ranks, first.with_owner(second.owner), second.with_owner(first.owner))


def _trade(ranks, first, second):
    _check_order(ranks, first, second)
    claims = ranks.claims()
    claims[ranks.rank(first) - 1] = ranks.claim(second)
    claims[ranks.rank(second) - 1] = ranks.claim(first)
    return claims


def _divide(ranks, parcel, new):
    _check_name(parcel)
    _check_name(new)
    if parcel == new or new in ranks.parcels():
        raise DuplicateName(new)
    if any([parcel in claim.lot and len(claim.lot) >= _MOST_PARCELS for claim in ranks.claims()]):
        raise TooMany(_MOST_PARCELS)
    return [claim.with_lot(_lot_with(claim.lot, new)) if parcel in claim.lot else claim for claim in ranks.claims()]


def _unite(ranks, first, second):
    _check_name(first)
    _check_name(second)
    if first == second:
        raise DuplicateName(second)
    claims = []
    for claim in ranks.claims():
        if (first in claim.lot) != (second in claim.lot):
            raise Unlike(claim.name)
        claims.append(claim.with_lot(_lot_without(claim.lot, second)) if second in claim.lot else claim)
    return claims


def _check_room(ranks):
    if len(ranks) >= RankList.MOST:
        raise TooMany(RankList.MOST)


def _check_name(value):
    if not is_name(value):
        raise InvalidName(value)


def _check_order(ranks, first, second):
    """Raises unless both are names of claims, the first one of the elder claim."""
    if ranks.rank(first) >= ranks.rank(second):
        raise Behind(first, second)


def _replaced(ranks, name, instead):
    """The list of the claims with others in the place of the one with a name."""
    at = ranks.rank(name) - 1
    claims = ranks.claims()
    claims[at:at + 1] = instead
    return claims


def _exchanged(ranks, *changes):
    """The list of the claims with some of them changed."""
    claims = ranks.claims()
    for claim in changes:
        claims[ranks.rank(claim.name) - 1] = claim
    return claims


def _lot_with(lot, parcel):
    return tuple(sorted([*lot, parcel]))


def _lot_without(lot, parcel):
    return tuple([other for other in lot if other != parcel])


_ACTIONS = {
    "enter": _enter, "cancel": _cancel, "repay": _repay, "assign": _assign, "fill": _fill, "part": _part,
    "merge": _merge, "release": _release, "extend": _extend, "yield": _yield_rank, "trade": _trade,
    "divide": _divide, "unite": _unite,
}
# How many items a deed has behind its word.
_SIZES = {
    "enter": 2, "cancel": 1, "repay": 2, "assign": 2, "fill": 2, "part": 3, "merge": 1, "release": 2, "extend": 2,
    "yield": 2, "trade": 2, "divide": 2, "unite": 2,
}
