"""Signs: who can gain and who can lose by a rank deed."""

from deedranks.errors import InvalidDeed
from deedranks.rankdeeds import changed


def signs(ranks, deed):
    """The dict from all owners of claims, before or behind a rank deed, to their signs."""
    if isinstance(deed, tuple) and len(deed) > 0 and deed[0] in ("divide", "unite"):
        raise InvalidDeed(0)
    after = changed(ranks, deed)
    told = _words(ranks, deed)
    persons = sorted(set([*ranks.persons(), *after.persons()]))
    return {person: _sign([word for owner, word in told if owner == person]) for person in persons}


def _words(ranks, deed):
    """The pairs (owner, word) that a rank deed gives; the owner of a reserved claim, who is no person, is None."""
    word, *rest = deed
    if word not in _TELLERS:
        return []
    tell = _TELLERS[word]
    return tell(ranks, *rest)


def _sign(words):
    """The sign of a person who gets these words."""
    if words == []:
        return "same"
    return words[0] if all([word == words[0] for word in words]) else "open"


def _enter(ranks, claim, at):
    if claim.reserved:
        return []
    return [(claim.owner, "more"), *_words_from(ranks, at, "less")]


def _cancel(ranks, name):
    claim = ranks.claim(name)
    if claim.reserved:
        return []
    return [(claim.owner, "less"), *_words_behind(ranks, name, "more")]


def _repay(ranks, name, _):
    return _cancel(ranks, name)


def _assign(ranks, name, person):
    owner = ranks.claim(name).owner
    return [] if owner == person else [(owner, "less"), (person, "more")]


def _fill(ranks, name, person):
    return [(person, "more"), *_words_behind(ranks, name, "less")]


def _release(ranks, name, _):
    claim = ranks.claim(name)
    if claim.reserved:
        return []
    return [(claim.owner, "less"), *_words_behind(ranks, name, "more" if len(claim.lot) == 1 else "open")]


def _extend(ranks, name, _):
    claim = ranks.claim(name)
    if claim.reserved:
        return []
    return [(claim.owner, "more"), *_words_behind(ranks, name, "open")]


def _yield_rank(ranks, elder, younger):
    owners = [ranks.claim(elder).owner, ranks.claim(younger).owner]
    return [] if owners[0] == owners[1] else [(owner, "open") for owner in owners]


def _trade(ranks, first, second):
    between = ranks.claims()[ranks.rank(first):ranks.rank(second) - 1]
    return [(ranks.claim(first).owner, "less"), (ranks.claim(second).owner, "more"),
            *[(claim.owner, "open") for claim in between]]


def _words_from(ranks, rank, word):
    """The word for the owner of each claim from a rank on."""
    return [(claim.owner, word) for claim in ranks.claims()[rank - 1:]]


def _words_behind(ranks, name, word):
    """The word for the owner of each claim behind a claim."""
    return _words_from(ranks, ranks.rank(name) + 1, word)


# A part and a merge give no words.
_TELLERS = {
    "enter": _enter, "cancel": _cancel, "repay": _repay, "assign": _assign, "fill": _fill, "release": _release,
    "extend": _extend, "yield": _yield_rank, "trade": _trade,
}
