"""Titles against a plain model of the points of each parcel, by many random calls."""

import random
import unittest
from fractions import Fraction

from deedranks import errors
from deedranks.shares import Share
from deedranks.titles import Titles

PEOPLE = ("ann", "bob", "cyd", "dan")


class Plain:
    """Each line is a list of [start, end, chain]; who owns a point is judged each time anew, as [14] says."""

    def __init__(self, owners):
        self.first = dict(owners)
        self.lines = {parcel: [[Fraction(0), Fraction(1), []]] for parcel in owners}
        self.goods, self.voids, self.used = {}, {}, set()

    def judge(self, parcel, chain):
        owner, told = self.first[parcel], []
        for at, (number, givers, taker) in enumerate(chain):
            warned = any(other in self.voids and self.voids[other] < number for other, _, _ in chain[:at])
            if number in self.voids:
                counted = False
            elif owner in givers:
                counted = True
            else:
                counted = self.goods[number] and not warned
            if counted and taker:
                owner = taker
            told.append(counted)
        return owner, told

    def owner(self, parcel, chain):
        return self.judge(parcel, chain)[0]

    def share(self, parcel, person):
        return sum([end - start for start, end, chain in self.lines[parcel] if self.owner(parcel, chain) == person],
                   Fraction(0))

    def persons(self, parcel):
        return sorted({self.owner(parcel, chain) for _, _, chain in self.lines[parcel]})

    def cut(self, parcel, person, length):
        """Cuts the line where the points of the person ahead make up the length."""
        for at, (start, end, chain) in enumerate(self.lines[parcel]):
            if self.owner(parcel, chain) == person:
                if 0 < length < end - start:
                    self.lines[parcel][at:at + 1] = [[start, start + length, list(chain)],
                                                     [start + length, end, list(chain)]]
                    return
                length -= end - start

    def deal(self, parcel, number, person, parts):
        """parts are pairs (length, taker), in the order of the points."""
        bounds = [sum([length for length, _ in parts[:at]], Fraction(0)) for at in range(len(parts) + 1)]
        for bound in bounds:
            self.cut(parcel, person, bound)
        ahead = Fraction(0)
        for part in self.lines[parcel]:
            if self.owner(parcel, part[2]) == person:
                takers = [taker for at, (_, taker) in enumerate(parts) if bounds[at] <= ahead < bounds[at + 1]]
                ahead += part[1] - part[0]
                for taker in takers:
                    part[2] = part[2] + [(number, (person,), taker)]

    def use(self, number, good=None):
        self.used.add(number)
        if good is not None:
            self.goods[number] = good

    def give(self, number, lot, giver, taker, share, good):
        for parcel in lot:
            if self.share(parcel, giver) < share:
                return ("Lacking", parcel)
        self.use(number, good)
        for parcel in lot:
            self.deal(parcel, number, giver, [(share, taker)])
        return None

    def inherit(self, number, person, heirs):
        if not any(self.share(parcel, person) for parcel in self.lines):
            return ("UnknownPerson", person)
        self.use(number, False)
        for parcel in self.lines:
            whole = self.share(parcel, person)
            if whole:
                weights = sum(weight for _, weight in heirs)
                self.deal(parcel, number, person, [(whole * weight / weights, heir) for heir, weight in heirs])
        return None

    def burden(self, number, lot, by, good):
        for parcel in lot:
            if not set(self.persons(parcel)) <= set(by):
                return ("NotOwner", parcel)
        self.use(number, good)
        for parcel in lot:
            for part in self.lines[parcel]:
                part[2] = part[2] + [(number, by, "")]
        return None

    def void(self, number, target):
        if target not in self.goods:
            return ("UnknownDeed", target)
        if target in self.voids:
            return ("AlreadyVoid", target)
        self.use(number)
        self.voids[target] = number
        return None

    def uphold(self, number, target):
        if target not in self.goods:
            return ("UnknownDeed", target)
        if target not in self.voids:
            return ("NotVoid", target)
        self.use(number)
        del self.voids[target]
        return None

    def alike(self, first, second):
        points = sorted({point for parcel in (first, second) for part in self.lines[parcel] for point in part[:2]})
        return self.first[first] == self.first[second] and all(
            self.chain(first, point) == self.chain(second, point) for point in points[:-1])

    def chain(self, parcel, at):
        return [chain for start, end, chain in self.lines[parcel] if start <= at < end][0]


def told(titles):
    """All that titles tell, in plain numbers."""
    rows = []
    for parcel in titles.parcels():
        rows.append((parcel, titles.first_owner(parcel)))
        rows.append([(person, exact(share)) for person, share in titles.owners(parcel)])
        rows.append([(exact(start), exact(end), person) for start, end, person in titles.stretches(parcel)])
    return rows


def plainly_told(plain):
    rows = []
    for parcel in sorted(plain.lines):
        rows.append((parcel, plain.first[parcel]))
        rows.append([(person, plain.share(parcel, person)) for person in plain.persons(parcel)])
        stretches = []
        for start, end, chain in plain.lines[parcel]:
            owner = plain.owner(parcel, chain)
            if stretches and stretches[-1][2] == owner:
                stretches[-1] = (stretches[-1][0], end, owner)
            else:
                stretches.append((start, end, owner))
        rows.append(stretches)
    return rows


def exact(share):
    return Fraction(share.top, share.bottom)


class Against(unittest.TestCase):
    def compare(self, titles, plain, chance):
        self.assertEqual(told(titles), plainly_told(plain))
        parcels = titles.parcels()
        self.assertEqual(titles.persons(), sorted({person for parcel in parcels for person in plain.persons(parcel)}))
        for parcel in parcels:
            self.assertEqual(sum([exact(share) for _, share in titles.owners(parcel)]), 1)
            for start, _, _ in plain.lines[parcel]:
                chain = plain.chain(parcel, start)
                counts = plain.judge(parcel, chain)[1]
                self.assertEqual(titles.chain(parcel, Share(start.numerator, start.denominator)),
                                 [item + (counted,) for item, counted in zip(chain, counts)])
            for number in sorted(plain.used) + [999]:
                found = [counted for _, _, chain in plain.lines[parcel]
                         for item, counted in zip(chain, plain.judge(parcel, chain)[1]) if item[0] == number]
                self.assertIs(titles.stands(number, parcel), bool(found) and all(found))
            other = chance.choice(parcels)
            self.assertIs(titles.alike(parcel, other), plain.alike(parcel, other))
        for number in sorted(plain.used):
            self.assertEqual(titles.void_by(number), plain.voids.get(number))

    def step(self, titles, plain, number, chance):
        """One random call of both; tells what each of them raised."""
        parcels = sorted(plain.lines)
        word = chance.choice(["give"] * 6 + ["inherit", "burden", "burden", "void", "void", "void", "uphold", "divide",
                                             "unite"])
        if word in ("give", "burden"):
            lot = tuple(sorted(chance.sample(parcels, chance.randrange(1, len(parcels) + 1))))
        if word == "give":
            giver, taker = chance.sample(PEOPLE, 2)
            share = Fraction(chance.randrange(1, 5), chance.randrange(4, 9))
            good = chance.random() < 0.5
            call = lambda: titles.give(number, lot, giver, taker, Share(share.numerator, share.denominator), good=good)
            return call, lambda: plain.give(number, lot, giver, taker, min(share, Fraction(1)), good)
        if word == "inherit":
            person, *rest = chance.sample(PEOPLE, chance.randrange(2, 5))
            heirs = tuple((heir, chance.randrange(1, 10)) for heir in rest)
            return lambda: titles.inherit(number, person, heirs), lambda: plain.inherit(number, person, heirs)
        if word == "burden":
            by = tuple(sorted(chance.sample(PEOPLE, chance.randrange(2, 5))))
            good = chance.random() < 0.3
            return (lambda: titles.burden(number, lot, by, good=good)), (lambda: plain.burden(number, lot, by, good))
        if word in ("void", "uphold"):
            target = chance.choice(sorted(plain.used) or [1])
            return (lambda: getattr(titles, word)(number, target)), (lambda: getattr(plain, word)(number, target))
        return self.divide_or_unite(titles, plain, word, chance)

    def divide_or_unite(self, titles, plain, word, chance):
        parcels = sorted(plain.lines)
        if word == "divide" and len(parcels) < 5:
            parcel, new = chance.choice(parcels), chance.choice([name for name in "abcdefg" if name not in parcels])

            def divide():
                plain.first[new] = plain.first[parcel]
                plain.lines[new] = [[start, end, list(chain)] for start, end, chain in plain.lines[parcel]]

            return lambda: titles.divide(parcel, new), divide
        first, second = chance.sample(parcels, 2) if len(parcels) > 1 else (parcels[0], "zz")

        def unite():
            if second == "zz":
                return ("UnknownParcel", "zz")
            if not plain.alike(first, second):
                return ("UnlikeLines", first)
            del plain.first[second], plain.lines[second]
            return None

        return lambda: titles.unite(first, second), unite

    def run_one(self, seed):
        chance = random.Random(seed)
        owners = {parcel: chance.choice(PEOPLE) for parcel in "abc"}
        titles, plain = Titles(owners), Plain(owners)
        numbers = chance.sample(range(1, 60), 30)
        done = 0
        for number in numbers:
            if chance.random() < 0.2:
                former, before = titles, told(titles)
                titles = titles.twin()
            else:
                former = None
            call, plainly = self.step(titles, plain, number, chance)
            expected = plainly()
            try:
                call()
                found = None
                done += 1
            except (errors.RollError, errors.Missing) as raised:
                found = (raised.code, list(vars(raised).values())[0])
            self.assertEqual(found, expected)
            self.compare(titles, plain, chance)
            if former is not None:
                self.assertEqual(told(former), before)
        return done

    def test_random_calls(self):
        done = sum([self.run_one(seed) for seed in range(80)])
        self.assertGreater(done, 700)


if __name__ == "__main__":
    unittest.main()
