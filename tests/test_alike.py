"""Alike rank lists, classes, caps and price rows: [33]."""

import itertools
import random
import unittest

from deedranks.alike import are_alike, caps, classes, parting, price_rows, row_count
from deedranks.claims import Claim
from deedranks.errors import TooMany
from deedranks.rankdeeds import changed
from deedranks.ranks import RankList
from deedranks.totals import pays
from support import Case, random_cases

FIRST = RankList(Claim("one", "ann", 1, ("a", "b", "c")), Claim("held", None, 9, ("e",)),
                 Claim("two", "bob", 2, ("c", "d")))
SECOND = RankList(Claim("two", "ann", 4, ("c", "d")))


def plain_classes(first, second):
    lots = [claim.lot for ranks in (first, second) for claim in ranks if claim.owner is not None]
    table = {}
    for parcel in sorted({parcel for lot in lots for parcel in lot}):
        table.setdefault(tuple(parcel in lot for lot in lots), []).append(parcel)
    return sorted(table.values())


def plain_cap(ranks, parcel):
    return sum(claim.amount for claim in ranks if claim.owner is not None and parcel in claim.lot)


def plain_rows(first, second):
    """All price rows, found by trying all rows and putting them in order."""
    groups = plain_classes(first, second)
    tops = [max(plain_cap(first, group[0]), plain_cap(second, group[0])) for group in groups]
    rows = itertools.product(*[range(top + 1) for top in tops])
    return [dict(zip([group[0] for group in groups], row)) for row in sorted(rows, key=lambda row: (sum(row), row))]


def paid(ranks, prices):
    return {person: pay for person, pay in pays(ranks, prices).items() if pay > 0}


def small_pairs(seed, many):
    """Pairs of rank lists with few claims and parcels, the second one often much like the first one."""
    for at in range(many):
        rng = random.Random(f"{seed} {at}")
        rows = []
        for name in rng.sample("abcdefg", rng.randint(0, 3)):
            lot = tuple(sorted(rng.sample("pqr", rng.randint(1, 2))))
            rows.append(Claim(name, rng.choice([None, "ann", "bob", "cyd"]), rng.randint(1, 2), lot))
        first = second = RankList(*rows)
        if rows:
            name = rng.choice(rows).name
            deed = rng.choice([("cancel", name), ("release", name, rng.choice(second.claim(name).lot)),
                               ("enter", Claim("new", "ann", 1, ("p",)), rng.randint(1, len(rows) + 1)),
                               ("repay", name, 1), ("cancel", name)])
            second = changed(first, deed)
        yield first, second


class Classes(Case):
    def test_some(self):
        self.same(classes(FIRST, SECOND), [["a", "b"], ["c"], ["d"]])
        self.same(caps(FIRST, SECOND), [1, 4, 4])
        self.same(row_count(FIRST, SECOND), 50)
        self.same([classes(second=RankList(), first=FIRST), caps(second=RankList(), first=FIRST),
                   row_count(second=RankList(), first=FIRST)], [[["a", "b"], ["c"], ["d"]], [1, 3, 2], 24])
        self.same([classes(RankList(), SECOND), caps(RankList(), SECOND), row_count(RankList(), SECOND)],
                  [[["c", "d"]], [4], 5])
        held = RankList(Claim("held", None, 9, ("e",)))
        for ranks in (RankList(), held):
            self.same([classes(ranks, held), caps(ranks, held), row_count(ranks, held)], [[], [], 1])

    def test_the_same_parcels_of_two_lists_are_parted(self):
        first = RankList(Claim("one", "ann", 1, ("a", "b")))
        second = RankList(Claim("one", "ann", 1, ("b", "c")))
        self.same(classes(first, second), [["a"], ["b"], ["c"]])
        self.same(caps(first, RankList(Claim("one", "ann", 5, ("b", "c")))), [1, 5, 5])

    def test_against_plain_ones(self):
        for rng, first, _ in random_cases("classes", 150):
            second = RankList(*rng.sample(first.claims(), rng.randint(0, len(first))))
            groups = plain_classes(first, second)
            self.same(classes(first, second), groups)
            tops = [max(plain_cap(first, group[0]), plain_cap(second, group[0])) for group in groups]
            self.same(caps(first, second), tops)
            many = 1
            for top in tops:
                many *= top + 1
            self.same(row_count(first, second), many)

    def test_great_amounts(self):
        ranks = RankList(Claim("one", "ann", 10 ** 40, ("a", "b")), Claim("two", "ann", 10 ** 12, ("b",)))
        self.same(caps(ranks, RankList()), [10 ** 40, 10 ** 40 + 10 ** 12])
        self.same(row_count(ranks, ranks), (10 ** 40 + 1) * (10 ** 40 + 10 ** 12 + 1))


class Rows(Case):
    def test_some(self):
        first = RankList(Claim("one", "ann", 1, ("b",)), Claim("two", "ann", 2, ("a",)))
        self.same(list(price_rows(first, RankList())),
                  [{"a": 0, "b": 0}, {"a": 0, "b": 1}, {"a": 1, "b": 0}, {"a": 1, "b": 1}, {"a": 2, "b": 0},
                   {"a": 2, "b": 1}])
        self.same(list(price_rows(second=first, first=first)), list(price_rows(first, RankList())))
        self.same(list(price_rows(RankList(), RankList())), [{}])

    def test_in_their_order(self):
        seen = 0
        for first, second in small_pairs("rows", 150):
            if row_count(first, second) <= 729:
                self.same(list(price_rows(first, second)), plain_rows(first, second))
                seen += row_count(first, second) > 10
        self.assertGreater(seen, 20)

    def test_729_and_more(self):
        lots = [("a",), ("b",), ("c",), ("d",), ("e",), ("f",)]
        six = RankList(*[Claim(lot[0], "ann", 2, lot) for lot in lots])
        self.assertEqual([row_count(six, six), len(list(price_rows(six, RankList()))), parting(six, six)],
                         [729, 729, None])
        one, more = RankList(Claim("a", "ann", 728, ("a",))), RankList(Claim("a", "ann", 729, ("a",)))
        self.assertEqual([row_count(one, one), are_alike(one, one)], [729, True])
        self.assertEqual(row_count(more, RankList()), 730)
        seven = six + Claim("g", "ann", 1, ("g",))
        for first, second in ((more, more), (more, RankList()), (RankList(), more), (seven, six), (one, seven)):
            for call in (parting, are_alike, lambda *told: list(price_rows(*told)),
                         lambda *told: next(price_rows(*told))):
                self.fails(TooMany, lambda: call(first, second), 729)

    def test_it_is_a_generator(self):
        rows = price_rows(FIRST, SECOND)
        self.assertEqual(rows.__class__.__name__, "generator")
        self.same([next(rows), next(rows)], [{"a": 0, "c": 0, "d": 0}, {"a": 0, "c": 0, "d": 1}])
        ranks = RankList(Claim("a", "ann", 729, ("a",)))
        late = price_rows(ranks, ranks)
        self.fails(TooMany, lambda: next(late), 729)
        next(price_rows(FIRST, SECOND)).clear()
        self.same(next(price_rows(FIRST, SECOND)), {"a": 0, "c": 0, "d": 0})


class Alike(Case):
    def test_lists_that_differ_in_names_and_ranks_alone(self):
        first = RankList(Claim("one", "ann", 2, ("a",)), Claim("two", "bob", 1, ("b",)), Claim("x", None, 5, ("a",)))
        second = RankList(Claim("two", "bob", 1, ("b",)), Claim("three", "ann", 2, ("a",)))
        self.assertIs(are_alike(first, second), True)
        self.assertIsNone(parting(first, second))
        parted = RankList(Claim("one", "ann", 1, ("a",)), Claim("four", "ann", 1, ("a",)),
                          Claim("two", "bob", 1, ("b",)))
        self.assertIs(are_alike(second=parted, first=first), True)

    def test_lists_that_are_not_alike(self):
        first = RankList(Claim("one", "ann", 2, ("a",)), Claim("two", "bob", 1, ("a",)))
        second = RankList(Claim("two", "bob", 1, ("a",)), Claim("one", "ann", 2, ("a",)))
        self.same([parting(first, second), are_alike(first, second)], [{"a": 1}, False])
        self.same(parting(first, RankList(Claim("one", "ann", 2, ("a",)))), {"a": 3})
        self.same(parting(RankList(Claim("one", "ann", 2, ("a",))), first), {"a": 3})
        self.same(parting(second=RankList(), first=first), {"a": 1})
        self.same(parting(first, RankList(Claim("one", "ann", 2, ("a",)), Claim("two", "cyd", 1, ("a",)))), {"a": 3})
        self.same([parting(RankList(), RankList()), are_alike(RankList(), RankList())], [None, True])

    def test_the_first_row_and_all_small_prices(self):
        parted = 0
        for first, second in small_pairs("alike", 200):
            if row_count(first, second) > 200:
                continue
            rows = [row for row in plain_rows(first, second) if paid(first, row) != paid(second, row)]
            self.same(parting(first, second), rows[0] if rows else None)
            self.assertIs(are_alike(first, second), rows == [])
            self.assertIs(are_alike(second, first), rows == [])
            parted += rows != []
            if rows == []:
                for prices in itertools.product(range(5), repeat=3):
                    row = dict(zip("pqr", prices))
                    self.assertEqual(paid(first, row), paid(second, row))
        self.assertGreater(parted, 50)

    def test_what_is_returned_is_new(self):
        classes(FIRST, SECOND)[0].clear()
        caps(FIRST, SECOND).clear()
        parting(FIRST, SECOND).clear()
        self.same([classes(FIRST, SECOND), caps(FIRST, SECOND)], [[["a", "b"], ["c"], ["d"]], [1, 4, 4]])
        self.assertNotEqual(parting(FIRST, SECOND), {})


if __name__ == "__main__":
    unittest.main()
