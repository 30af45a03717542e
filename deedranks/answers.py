"""Answers to lines of words about the records of an office."""

from deedranks.errors import Missing, Reserved, UnknownParcel
from deedranks.foul import foul_pay
from deedranks.leaving import left
from deedranks.totals import pays, totals
from deedranks.words import is_name, number_text


def answered(office, prices, line):
    """The answer to a line by the roll of the present day, as known on this day, and by prices."""
    word, *names = line.split(" ")
    if word not in _TELLERS or len(names) != _SIZES[word] or not all([is_name(name) for name in names]):
        return "unknown"
    tell = _TELLERS[word]
    try:
        return tell(office, prices, *names)
    except (Missing, Reserved) as error:
        return f"error {error.code}"


def _day(office, _):
    return f"{office.today}"


def _owners(office, _, parcel):
    return _joined([f"{person} {share}" for person, share in office.roll().titles().owners(parcel)])


def _way(office, _, parcel):
    way = office.roll().ways().way(parcel)
    return "none" if way is None else _joined(way)


def _ranks(office, _):
    return _joined(office.roll().ranks().names())


def _rank(office, _, name):
    return f"{office.roll().ranks().rank(name)}"


def _total(office, prices, name):
    ranks = office.roll().ranks()
    rank = ranks.rank(name)
    return number_text(totals(ranks, prices)[rank - 1][1])


def _foul(office, prices, name):
    return number_text(foul_pay(office.roll().ranks(), prices, name))


def _pay(office, prices, person):
    return number_text(pays(office.roll().ranks(), prices).get(person, 0))


def _left(office, prices, parcel):
    roll = office.roll()
    if parcel not in roll.plat:
        raise UnknownParcel(parcel)
    least, greatest = left(roll.ranks(), prices, [parcel])
    return f"{number_text(least)} {number_text(greatest)}"


def _idle(office, _):
    words = office.idle()
    return _joined([f"{number} {words[number]}" for number in words])


def _joined(words):
    return "none" if words == [] else " ".join(words)


_TELLERS = {
    "day": _day, "owners": _owners, "way": _way, "ranks": _ranks, "rank": _rank, "total": _total, "foul": _foul,
    "pay": _pay, "left": _left, "idle": _idle,
}
# How many names stand behind each word.
_SIZES = {
    "day": 0, "owners": 1, "way": 1, "ranks": 0, "rank": 1, "total": 1, "foul": 1, "pay": 1, "left": 1, "idle": 0,
}
