"""The lines of parcels: which points have which chains, and to whom they belong.

A line is a tuple of stretches (start, end, chain, owner), in ascending order, without gaps. A chain is a tuple of
items (number, givers, taker), and owner is the person to whom judging the chain gives the points.
"""

from deedranks.shares import Share


def new_line(first):
    """The line of a parcel with its first owner."""
    return ((Share(0), Share(1), (), first),)


def length_of(line, person):
    """The share of a person in a line."""
    return sum([end - start for start, end, _, owner in line if owner == person], start=Share(0))


def owners_of(line):
    """The ascending list of the persons who have points."""
    return sorted({owner for _, _, _, owner in line})


def dealt_line(line, person, parts):
    """The line behind a deal: parts are pairs (length, item), for the first points of the person, the next ones, ..."""
    dealt = []
    rest = list(parts)
    for start, end, chain, owner in line:
        while owner == person and rest != [] and start.less(end):
            length, item = rest.pop(0)
            cut = start + length
            if end.less(cut):
                rest.insert(0, (cut - end, item))
                cut = end
            dealt.append((start, cut, (*chain, item), item[2]))
            start = cut
        if start.less(end):
            dealt.append((start, end, chain, owner))
    return tuple(dealt)


def burdened_line(line, item):
    """The line with a burden upon all its points."""
    return tuple([(start, end, (*chain, item), owner) for start, end, chain, owner in line])


def judged_line(line, first, voids, goods):
    """The line with the owners that judging gives now."""
    rows = []
    for start, end, chain, _ in line:
        rows.append((start, end, chain, judged_chain(chain, first, voids, goods)[1]))
    return tuple(rows)


def judged_chain(chain, first, voids, goods):
    """The list of whether each item of a chain counts, and the owner behind the last one.

    voids is a dict from void numbers to the numbers by which they are void, goods one from the numbers of items to
    whether they are good.
    """
    owner = first
    counts = []
    # The least number by which an item ahead is void; each good item with a greater number has been warned.
    warning = None
    for number, givers, taker in chain:
        protected = goods[number] and (warning is None or warning >= number)
        counted = number not in voids and (owner in givers or protected)
        # A burden has no taker.
        if counted and taker != "":
            owner = taker
        if number in voids and (warning is None or voids[number] < warning):
            warning = voids[number]
        counts.append(counted)
    return counts, owner
