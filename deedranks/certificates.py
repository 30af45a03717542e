"""The texts of certificates, which can be judged by themselves."""

from deedranks.errors import InvalidText
from deedranks.papers import certificate, judged
from deedranks.ranks import RankList
from deedranks.ranktexts import claim_line, read_claim
from deedranks.words import is_amount, is_name, number_text, read_number, text_lines

# The kinds of lines, in their order.
_CLAIM = 0
_PRICE = 1
_PAY = 2
_CUT = 3


def certificate_text(ranks, prices):
    """The text of a right certificate of a rank list at some prices."""
    plan, cuts = certificate(ranks, prices)
    demands = ranks.demands()
    lines = [claim_line(claim) for claim in ranks.claims()]
    for parcel in sorted({parcel for _, _, lot in demands for parcel in lot}):
        lines.append(f"price {parcel} {number_text(prices.get(parcel, 0))}")
    for name, parcel in plan:
        lines.append(f"pay {name} {parcel} {number_text(plan[(name, parcel)])}")
    for (name, _, _), cut in zip(demands, cuts):
        lines.append(" ".join(["cut", name, *cut]))
    return "".join([f"{line}\n" for line in lines])


def read_certificate(text):
    """The tuple (ranks, prices, plan, cuts) of a text."""
    if not isinstance(text, str):
        raise InvalidText(0, "form")
    rows = []
    for at, line in enumerate(text_lines(text)):
        row = None if line is None else _read_line(line)
        why = _wrong_line(rows, row)
        if why != "":
            raise InvalidText(at, why)
        rows.append(row)
    if _next_demand(rows) is not None:
        raise InvalidText(len(rows), "missing")
    claims = [claim for _, _, claim in _of_kind(rows, _CLAIM)]
    cuts = [names for _, _, names in _of_kind(rows, _CUT)]
    return RankList(*claims), _numbers(_of_kind(rows, _PRICE)), _numbers(_of_kind(rows, _PAY)), cuts


def judged_text(text):
    """What is wrong with the certificate of a text: a pair of a word and a name."""
    ranks, prices, plan, cuts = read_certificate(text)
    return judged(ranks, prices, plan, cuts)


def _read_line(line):
    """The triple (kind, key, item) of a line, None if it is none; two lines of one kind are double by their keys."""
    word, *rest = line.split(" ")
    if word == "price":
        return _read_number_line(_PRICE, rest)
    if word == "pay":
        return _read_number_line(_PAY, rest)
    if word == "cut":
        return (_CUT, rest[0], rest[1:]) if rest != [] and all([is_name(name) for name in rest]) else None
    claim = read_claim(line)
    return None if claim is None else (_CLAIM, claim.name, claim)


def _read_number_line(kind, words):
    """The triple of a price line or a pay line, whose kind is also the number of its names."""
    names = tuple(words[:-1])
    number = read_number(words[-1]) if words != [] else None
    if len(names) != kind or not all([is_name(name) for name in names]) or number is None:
        return None
    if kind == _PAY and not is_amount(number):
        return None
    return (kind, names[0] if kind == _PRICE else names, number)


def _wrong_line(rows, row):
    """Which one of form, many, double and order is wrong with a row behind others; the empty string if none."""
    if row is None or (rows != [] and row[0] < rows[-1][0]):
        return "form"
    kind, key, _ = row
    ahead = _of_kind(rows, kind)
    if kind == _CLAIM and len(ahead) >= RankList.MOST:
        return "many"
    if kind != _CUT and any([key == other for _, other, _ in ahead]):
        return "double"
    if kind == _CUT and key != _next_demand(rows):
        return "order"
    return ""


def _of_kind(rows, kind):
    return [row for row in rows if row[0] == kind]


def _next_demand(rows):
    """The name of the first demand that has no cut line yet, None if all have one."""
    names = [name for _, name, claim in _of_kind(rows, _CLAIM) if not claim.reserved]
    many = len(_of_kind(rows, _CUT))
    return names[many] if many < len(names) else None


def _numbers(rows):
    """The dict from the keys of rows to their numbers."""
    found = {key: number for _, key, number in rows}
    return {key: found[key] for key in sorted(found)}
