"""Titles against a plain model of the points of each parcel, by many random calls."""

import random
import unittest
from fractions import Fraction

from deedranks import errors
from deedranks.shares import Share
from deedranks.titles import Titles
from plain import Plain, exact

PEOPLE = ("ann", "bob", "cyd", "dan")


def told(titles):
    """All that titles tell, in plain numbers."""
    rows = []
    for parcel in titles.parcels():
        rows.append((parcel, titles.first_owner(parcel)))
        rows.append([(person, exact(share)) for person, share in titles.owners(parcel)])
        rows.append([(exact(start), exact(end), person) for start, end, person in titles.stretches(parcel)])
    return rows


def plainly_told(plain):
    rows = []
    for parcel in sorted(plain.lines):
        rows.append((parcel, plain.first[parcel]))
        rows.append([(person, plain.share(parcel, person)) for person in plain.persons(parcel)])
        stretches = []
        for start, end, chain in plain.lines[parcel]:
            owner = plain.owner(parcel, chain)
            if stretches and stretches[-1][2] == owner:
                stretches[-1] = (stretches[-1][0], end, owner)
            else:
                stretches.append((start, end, owner))
        rows.append(stretches)
    return rows


class Against(unittest.TestCase):
    def compare(self, titles, plain, chance):
        self.assertEqual(told(titles), plainly_told(plain))
        parcels = titles.parcels()
        self.assertEqual(titles.persons(), sorted({person for parcel in parcels for person in plain.persons(parcel)}))
        for parcel in parcels:
            self.assertEqual(sum([exact(share) for _, share in titles.owners(parcel)]), 1)
            for start, _, _ in plain.lines[parcel]:
                chain = plain.chain(parcel, start)
                counts = plain.judge(parcel, chain)[1]
                self.assertEqual(titles.chain(parcel, Share(start.numerator, start.denominator)),
                                 [item + (counted,) for item, counted in zip(chain, counts)])
            for number in sorted(plain.used) + [999]:
                found = [counted for _, _, chain in plain.lines[parcel]
                         for item, counted in zip(chain, plain.judge(parcel, chain)[1]) if item[0] == number]
                self.assertIs(titles.stands(number, parcel), bool(found) and all(found))
            other = chance.choice(parcels)
            self.assertIs(titles.alike(parcel, other), plain.alike(parcel, other))
        for number in sorted(plain.used):
            self.assertEqual(titles.void_by(number), plain.voids.get(number))

    def step(self, titles, plain, number, chance):
        """One random call of both; tells what each of them raised."""
        parcels = sorted(plain.lines)
        word = chance.choice(["give"] * 6 + ["inherit", "burden", "burden", "void", "void", "void", "uphold", "divide",
                                             "unite"])
        if word in ("give", "burden"):
            lot = tuple(sorted(chance.sample(parcels, chance.randrange(1, len(parcels) + 1))))
        if word == "give":
            giver, taker = chance.sample(PEOPLE, 2)
            share = Fraction(chance.randrange(1, 5), chance.randrange(4, 9))
            good = chance.random() < 0.5
            call = lambda: titles.give(number, lot, giver, taker, Share(share.numerator, share.denominator), good=good)
            return call, lambda: plain.give(number, lot, giver, taker, min(share, Fraction(1)), good)
        if word == "inherit":
            person, *rest = chance.sample(PEOPLE, chance.randrange(2, 5))
            heirs = tuple((heir, chance.randrange(1, 10)) for heir in rest)
            return lambda: titles.inherit(number, person, heirs), lambda: plain.inherit(number, person, heirs)
        if word == "burden":
            by = tuple(sorted(chance.sample(PEOPLE, chance.randrange(2, 5))))
            good = chance.random() < 0.3
            return (lambda: titles.burden(number, lot, by, good=good)), (lambda: plain.burden(number, lot, by, good))
        if word in ("void", "uphold"):
            target = chance.choice(sorted(plain.used) or [1])
            return (lambda: getattr(titles, word)(number, target)), (lambda: getattr(plain, word)(number, target))
        return self.divide_or_unite(titles, plain, word, chance)

    def divide_or_unite(self, titles, plain, word, chance):
        parcels = sorted(plain.lines)
        if word == "divide" and len(parcels) < 5:
            parcel, new = chance.choice(parcels), chance.choice([name for name in "abcdefg" if name not in parcels])

            def divide():
                plain.first[new] = plain.first[parcel]
                plain.lines[new] = [[start, end, list(chain)] for start, end, chain in plain.lines[parcel]]

            return lambda: titles.divide(parcel, new), divide
        first, second = chance.sample(parcels, 2) if len(parcels) > 1 else (parcels[0], "zz")

        def unite():
            if second == "zz":
                return ("UnknownParcel", "zz")
            if not plain.alike(first, second):
                return ("UnlikeLines", first)
            del plain.first[second], plain.lines[second]
            return None

        return lambda: titles.unite(first, second), unite

    def run_one(self, seed):
        chance = random.Random(seed)
        owners = {parcel: chance.choice(PEOPLE) for parcel in "abc"}
        titles, plain = Titles(owners), Plain(owners)
        numbers = chance.sample(range(1, 60), 30)
        done = 0
        for number in numbers:
            if chance.random() < 0.2:
                former, before = titles, told(titles)
                titles = titles.twin()
            else:
                former = None
            call, plainly = self.step(titles, plain, number, chance)
            expected = plainly()
            try:
                call()
                found = None
                done += 1
            except (errors.RollError, errors.Missing) as raised:
                found = (raised.code, list(vars(raised).values())[0])
            self.assertEqual(found, expected)
            self.compare(titles, plain, chance)
            if former is not None:
                self.assertEqual(told(former), before)
        return done

    def test_random_calls(self):
        done = sum([self.run_one(seed) for seed in range(80)])
        self.assertGreater(done, 700)


if __name__ == "__main__":
    unittest.main()
