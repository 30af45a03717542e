"""Plain models of titles and of rolls, which follow the words of the document step by step."""

import copy
from fractions import Fraction


class Plain:
    """Each line is a list of [start, end, chain]; who owns a point is judged each time anew, as [14] says."""

    def __init__(self, owners):
        self.first = dict(owners)
        self.lines = {parcel: [[Fraction(0), Fraction(1), []]] for parcel in owners}
        self.goods, self.voids, self.used = {}, {}, set()

    def judge(self, parcel, chain):
        owner, told = self.first[parcel], []
        for at, (number, givers, taker) in enumerate(chain):
            warned = any(other in self.voids and self.voids[other] < number for other, _, _ in chain[:at])
            if number in self.voids:
                counted = False
            elif owner in givers:
                counted = True
            else:
                counted = self.goods[number] and not warned
            if counted and taker:
                owner = taker
            told.append(counted)
        return owner, told

    def owner(self, parcel, chain):
        return self.judge(parcel, chain)[0]

    def share(self, parcel, person):
        return sum([end - start for start, end, chain in self.lines[parcel] if self.owner(parcel, chain) == person],
                   Fraction(0))

    def persons(self, parcel):
        return sorted({self.owner(parcel, chain) for _, _, chain in self.lines[parcel]})

    def cut(self, parcel, person, length):
        """Cuts the line where the points of the person ahead make up the length."""
        for at, (start, end, chain) in enumerate(self.lines[parcel]):
            if self.owner(parcel, chain) == person:
                if 0 < length < end - start:
                    self.lines[parcel][at:at + 1] = [[start, start + length, list(chain)],
                                                     [start + length, end, list(chain)]]
                    return
                length -= end - start

    def deal(self, parcel, number, person, parts):
        """parts are pairs (length, taker), in the order of the points."""
        bounds = [sum([length for length, _ in parts[:at]], Fraction(0)) for at in range(len(parts) + 1)]
        for bound in bounds:
            self.cut(parcel, person, bound)
        ahead = Fraction(0)
        for part in self.lines[parcel]:
            if self.owner(parcel, part[2]) == person:
                takers = [taker for at, (_, taker) in enumerate(parts) if bounds[at] <= ahead < bounds[at + 1]]
                ahead += part[1] - part[0]
                for taker in takers:
                    part[2] = part[2] + [(number, (person,), taker)]

    def use(self, number, good=None):
        self.used.add(number)
        if good is not None:
            self.goods[number] = good

    def give(self, number, lot, giver, taker, share, good):
        for parcel in lot:
            if self.share(parcel, giver) < share:
                return ("Lacking", parcel)
        self.use(number, good)
        for parcel in lot:
            self.deal(parcel, number, giver, [(share, taker)])
        return None

    def inherit(self, number, person, heirs):
        if not any(self.share(parcel, person) for parcel in self.lines):
            return ("UnknownPerson", person)
        self.use(number, False)
        for parcel in self.lines:
            whole = self.share(parcel, person)
            if whole:
                weights = sum(weight for _, weight in heirs)
                self.deal(parcel, number, person, [(whole * weight / weights, heir) for heir, weight in heirs])
        return None

    def burden(self, number, lot, by, good):
        for parcel in lot:
            if not set(self.persons(parcel)) <= set(by):
                return ("NotOwner", parcel)
        self.use(number, good)
        for parcel in lot:
            for part in self.lines[parcel]:
                part[2] = part[2] + [(number, by, "")]
        return None

    def void(self, number, target):
        if target not in self.goods:
            return ("UnknownDeed", target)
        if target in self.voids:
            return ("AlreadyVoid", target)
        self.use(number)
        self.voids[target] = number
        return None

    def uphold(self, number, target):
        if target not in self.goods:
            return ("UnknownDeed", target)
        if target not in self.voids:
            return ("NotVoid", target)
        self.use(number)
        del self.voids[target]
        return None

    def alike(self, first, second):
        points = sorted({point for parcel in (first, second) for part in self.lines[parcel] for point in part[:2]})
        return self.first[first] == self.first[second] and all(
            self.chain(first, point) == self.chain(second, point) for point in points[:-1])

    def chain(self, parcel, at):
        return [chain for start, end, chain in self.lines[parcel] if start <= at < end][0]


def exact(share):
    return Fraction(share.top, share.bottom)


class Refused(Exception):
    """A deed that raises an error with this code and these attributes."""

    def __init__(self, code, *told):
        Exception.__init__(self, code, *told)
        self.code = code
        self.told = list(told)


class PlainRoll:
    """A roll: each claim on paper is a dict, in the order of the places."""

    def __init__(self, rows, owners):
        self.cells = {(row, column): name for row, names in enumerate(rows) for column, name in enumerate(names)}
        self.titles = Plain(owners)
        self.grants, self.paper, self.day, self.used = {}, [], 0, set()

    def do(self, number, deed, day):
        """Does a deed; None, or the code of its error and the error's attributes."""
        other = copy.deepcopy(self)
        try:
            other.turn(day)
            getattr(other, "do_" + deed[0])(number, *deed[1:])
        except Refused as error:
            return [error.code, *error.told]
        other.used.add(number)
        vars(self).update(vars(other))
        return None

    def turn(self, day):
        self.day = day
        self.paper = [claim for claim in self.paper if claim["last"] is None or claim["last"] >= day]

    # What holds of the map.

    def parcels(self):
        return sorted(set(self.cells.values()))

    def need(self, *names):
        for name in names:
            if name not in self.parcels():
                raise Refused("UnknownParcel", name)

    def beside(self, first, second):
        return first != second and any(self.cells[cell] == first and self.cells.get(other) == second
                                       for cell in self.cells for other in around(cell))

    # What holds of the claims.

    def find(self, name):
        for at, claim in enumerate(self.paper):
            if claim["name"] == name:
                return at
        raise Refused("UnknownClaim", name)

    def owned(self, name):
        at = self.find(name)
        if self.paper[at]["owner"] is None:
            raise Refused("Reserved", name)
        return self.paper[at]

    def free(self, name):
        if any(claim["name"] == name for claim in self.paper):
            raise Refused("DuplicateName", name)

    def room(self):
        if len(self.paper) == 24:
            raise Refused("TooMany", 24)

    def ordered(self, first, second):
        if self.find(first) >= self.find(second):
            raise Refused("Behind", first, second)

    def owns(self, lot, by):
        for parcel in lot:
            if not set(self.titles.persons(parcel)) <= set(by):
                raise Refused("NotOwner", parcel)

    def told(self, answer):
        """Raises what the titles answer."""
        if answer is not None:
            raise Refused(*answer)

    def stands(self, number, parcel):
        found = [counted for _, _, chain in self.titles.lines[parcel]
                 for item, counted in zip(chain, self.titles.judge(parcel, chain)[1]) if item[0] == number]
        return bool(found) and all(found)

    # The deeds.

    def do_sale(self, number, lot, giver, taker, share, knew):
        self.need(*lot)
        self.told(self.titles.give(number, lot, giver, taker, exact(share), not knew))

    def do_gift(self, number, lot, giver, taker, share):
        self.need(*lot)
        self.told(self.titles.give(number, lot, giver, taker, exact(share), False))

    def do_heirs(self, number, person, heirs):
        self.told(self.titles.inherit(number, person, heirs))

    def do_void(self, number, target):
        self.told(self.titles.void(number, target))

    def do_uphold(self, number, target):
        self.told(self.titles.uphold(number, target))

    def do_divide(self, number, parcel, cells, new):
        self.need(parcel)
        if new in self.parcels():
            raise Refused("DuplicateName", new)
        for at, cell in enumerate(cells):
            if self.cells.get(cell) != parcel:
                raise Refused("InvalidCell", at)
        if len(self.parcels()) == 12:
            raise Refused("TooMany", 12)
        rest = [cell for cell in self.cells if self.cells[cell] == parcel and cell not in cells]
        for name, part in ((new, cells), (parcel, rest)):
            if not together(part):
                raise Refused("Apart", name)
        for cell in cells:
            self.cells[cell] = new
        self.titles.first[new] = self.titles.first[parcel]
        self.titles.lines[new] = copy.deepcopy(self.titles.lines[parcel])
        for claim in self.paper:
            if parcel in claim["came"]:
                claim["came"][new] = claim["came"][parcel]
        for (start, over), held in list(self.grants.items()):
            if parcel in (start, over):
                del self.grants[(start, over)]
                for part in (parcel, new):
                    step = (part, over) if start == parcel else (start, part)
                    if self.beside(*step):
                        self.grants[step] = held

    def do_unite(self, number, first, second):
        self.need(first, second)
        if not self.beside(first, second):
            raise Refused("NotBeside", first, second)
        if not self.titles.alike(first, second):
            raise Refused("UnlikeLines", first, second)
        for claim in self.paper:
            if (first in claim["came"]) != (second in claim["came"]):
                raise Refused("Unlike", claim["name"])
        for claim in self.paper:
            claim["came"].pop(second, None)
        self.cells = {cell: first if name == second else name for cell, name in self.cells.items()}
        del self.titles.first[second], self.titles.lines[second]
        grants, self.grants = self.grants, {}
        for step, held in sorted(grants.items(), key=lambda pair: -pair[1]):
            start, over = [first if name == second else name for name in step]
            if start != over:
                self.grants[(start, over)] = held

    def do_grant(self, number, start, over, by, knew):
        self.need(start, over)
        if not self.beside(start, over):
            raise Refused("NotBeside", start, over)
        if (start, over) in self.grants and self.stands(self.grants[(start, over)], over):
            raise Refused("Granted", start, over)
        self.owns((over,), by)
        self.titles.burden(number, (over,), by, not knew)
        self.grants[(start, over)] = number

    def do_waive(self, number, start, over):
        if (start, over) not in self.grants:
            raise Refused("UnknownGrant", start, over)
        del self.grants[(start, over)]

    def enter(self, number, claim, lot, by, knew):
        self.free(claim["name"])
        self.room()
        self.need(*lot)
        self.owns(lot, by)
        self.titles.burden(number, lot, by, not knew)
        at = [other["place"] > number for other in self.paper] + [True]
        self.paper.insert(at.index(True), {"place": number, "came": {parcel: number for parcel in lot}, **claim})

    def do_charge(self, number, name, person, amount, lot, by, knew):
        self.enter(number, {"name": name, "owner": person, "amount": amount, "last": None}, lot, by, knew)

    def do_reserve(self, number, name, amount, lot, until, by, knew):
        if until < self.day:
            raise Refused("InvalidDay", until)
        self.enter(number, {"name": name, "owner": None, "amount": amount, "last": until}, lot, by, knew)

    def do_fill(self, number, name, person):
        claim = self.paper[self.find(name)]
        if claim["owner"] is not None:
            raise Refused("NotReserved", name)
        claim["owner"], claim["last"] = person, None

    def do_repay(self, number, name, many):
        at = self.find(name)
        if many > self.paper[at]["amount"]:
            raise Refused("InvalidAmount", many)
        self.paper[at]["amount"] -= many
        if self.paper[at]["amount"] == 0:
            del self.paper[at]

    def do_assign(self, number, name, person):
        self.owned(name)["owner"] = person

    def do_part(self, number, name, many, new):
        at = self.find(name)
        if many >= self.paper[at]["amount"]:
            raise Refused("InvalidAmount", many)
        self.room()
        self.free(new)
        rest = copy.deepcopy(self.paper[at])
        rest["name"], rest["amount"] = new, rest["amount"] - many
        self.paper[at]["amount"] = many
        self.paper.insert(at + 1, rest)

    def do_merge(self, number, name):
        at = self.find(name)
        same = ("owner", "came", "last")
        if at + 1 == len(self.paper) or any(self.paper[at][key] != self.paper[at + 1][key] for key in same):
            raise Refused("Unlike", name)
        self.paper[at]["amount"] += self.paper.pop(at + 1)["amount"]

    def do_release(self, number, name, parcel):
        at = self.find(name)
        if parcel not in self.paper[at]["came"]:
            raise Refused("OutsideLot", parcel)
        del self.paper[at]["came"][parcel]
        if not self.paper[at]["came"]:
            del self.paper[at]

    def do_extend(self, number, name, parcel, by, knew):
        claim = self.paper[self.find(name)]
        if parcel in claim["came"]:
            raise Refused("InsideLot", parcel)
        self.need(parcel)
        self.owns((parcel,), by)
        self.titles.burden(number, (parcel,), by, not knew)
        claim["came"][parcel] = number

    def do_yield(self, number, elder, younger):
        self.ordered(elder, younger)
        first, second = self.owned(elder), self.owned(younger)
        if first["amount"] != second["amount"]:
            raise Refused("Unequal", elder, younger)
        first["owner"], second["owner"] = second["owner"], first["owner"]

    def do_trade(self, number, first, second):
        self.ordered(first, second)
        one, two = self.find(first), self.find(second)
        self.paper[one], self.paper[two] = self.paper[two], self.paper[one]
        places = self.paper[one]["place"], self.paper[two]["place"]
        self.paper[two]["place"], self.paper[one]["place"] = places


def around(cell):
    row, column = cell
    return [(row - 1, column), (row + 1, column), (row, column - 1), (row, column + 1)]


def together(cells):
    """Whether a set of cells hangs together."""
    found = list(cells[:1])
    for cell in found:
        found += [other for other in around(cell) if other in cells and other not in found]
    return 0 < len(cells) == len(found)


def plain_records(roll):
    """What a plain roll tells, in the words of records."""
    lots = []
    for claim in roll.paper:
        lot = tuple(parcel for parcel in sorted(claim["came"]) if roll.stands(claim["came"][parcel], parcel))
        if lot:
            lots.append((claim["name"], claim["owner"], claim["amount"], lot))
    standing = sorted(step for step, number in roll.grants.items() if roll.stands(number, step[1]))
    shares = {parcel: [(person, roll.titles.share(parcel, person)) for person in roll.titles.persons(parcel)]
              for parcel in roll.parcels()}
    own = [(start, over) for start in shares for over in shares
           if roll.beside(start, over) and shares[start] == shares[over]]
    return {
        "day": roll.day,
        "cells": roll.cells,
        "owners": shares,
        "grants": standing,
        "paper": [(claim["name"], claim["owner"], claim["amount"], tuple(sorted(claim["came"]))) for claim in roll.paper],
        "places": [(claim["place"], claim["name"]) for claim in roll.paper],
        "came": {claim["name"]: claim["came"] for claim in roll.paper},
        "last": {claim["name"]: claim["last"] for claim in roll.paper},
        "ranks": lots,
        "steps": sorted(set(standing + own)),
    }


def records(roll):
    """All that a roll tells, as far as a plain roll knows it."""
    titles, plat = roll.titles(), roll.plat
    paper = roll.on_paper()
    chains = {}
    for parcel in titles.parcels():
        chains[parcel] = [titles.chain(parcel, start) for start, _, _ in titles.stretches(parcel)]
    return {
        "day": roll.present_day,
        "cells": {(row, column): name for row, names in enumerate(plat.rows()) for column, name in enumerate(names)},
        "owners": {parcel: [(person, exact(share)) for person, share in titles.owners(parcel)]
                   for parcel in titles.parcels()},
        "grants": roll.grants(),
        "paper": [told(claim) for claim in paper],
        "places": roll.places(),
        "came": {claim.name: {parcel: roll.came_by(claim.name, parcel) for parcel in claim.lot} for claim in paper},
        "last": {claim.name: roll.last_day(claim.name) for claim in paper},
        "ranks": [told(claim) for claim in roll.ranks()],
        "steps": roll.ways().steps(),
        "firsts": {parcel: titles.first_owner(parcel) for parcel in titles.parcels()},
        "stretches": {parcel: [(exact(start), exact(end), person) for start, end, person in titles.stretches(parcel)]
                      for parcel in titles.parcels()},
        "chains": chains,
        "road": plat.road(),
        "voids": {number: titles.void_by(number) for number in range(1, 1000) if titles.void_by(number) is not None},
    }


def told(claim):
    return (claim.name, claim.owner, claim.amount, claim.lot)


# What both kinds of rolls tell.
SHARED = ("day", "cells", "owners", "grants", "paper", "places", "came", "last", "ranks", "steps")
