"""Sales and fair sales: [36]."""

import random
import unittest

from deedranks.claims import Claim
from deedranks.errors import InvalidName, InvalidPrices, Sold
from deedranks.foul import foul_pay
from deedranks.ranks import RankList
from deedranks.sales import FairSale, Sale
from support import Case, any_values, is_plain_price, plain_sale, plain_totals, random_cases, row_of

RANKS = RankList(Claim("one", "ann", 3, ("a", "b")), Claim("held", None, 9, ("a", "b")), Claim("two", "bob", 2, ("b",)),
                 Claim("three", "ann", 4, ("a",)))
BOTH = (Sale, FairSale)


def state(sale):
    return [sale.totals(), sale.owed(), sale.sold(), sale.order(), sale.plan(), sale.ended, repr(sale)]


def word(kind):
    return "Sale" if kind is Sale else "FairSale"


class Sales(Case):
    def test_a_sale_in_which_nothing_is_moved(self):
        sale = Sale(RANKS)
        self.same(state(sale), [[("one", 0), ("two", 0), ("three", 0)], [("one", 3), ("two", 2), ("three", 4)], {}, [],
                                {}, False, "Sale(0 sold)"])
        self.same(sale.sell("b", 4), [("one", 3), ("two", 1)])
        self.same(state(sale), [[("one", 3), ("two", 1), ("three", 0)], [("one", 0), ("two", 1), ("three", 4)],
                                {"b": 4}, ["b"], {("one", "b"): 3, ("two", "b"): 1}, False, "Sale(1 sold)"])
        self.same(sale.sell(price=9, parcel="a"), [("three", 4)])
        self.same(state(sale), [[("one", 3), ("two", 1), ("three", 4)], [("one", 0), ("two", 1), ("three", 0)],
                                {"a": 9, "b": 4}, ["b", "a"],
                                {("one", "b"): 3, ("three", "a"): 4, ("two", "b"): 1}, True, "Sale(2 sold)"])

    def test_a_fair_sale(self):
        sale = FairSale(ranks=RANKS)
        self.same(state(sale), [[("one", 0), ("two", 0), ("three", 0)], [("one", 3), ("two", 2), ("three", 4)], {}, [],
                                {}, False, "FairSale(0 sold)"])
        self.same(sale.sell("b", 4), [("one", 3), ("two", 1)])
        self.same(sale.sell("a", 9), [("two", 1), ("three", 4)])
        self.same([sale.totals(), sale.owed(), sale.sold(), sale.order(), sale.ended, repr(sale)],
                  [[("one", 3), ("two", 2), ("three", 4)], [("one", 0), ("two", 0), ("three", 0)], {"a": 9, "b": 4},
                   ["b", "a"], True, "FairSale(2 sold)"])

    def test_the_kinds(self):
        self.assertEqual(FairSale.__bases__, (Sale,))
        for name in ("sell", "plan", "twin", "__repr__"):
            self.assertIn(name, vars(FairSale))
        for kind in BOTH:
            self.assertIs(kind(RANKS).twin().__class__, kind)
        self.assertIsInstance(vars(Sale)["ended"], property)

    def test_the_price_0_and_parcels_in_no_lot(self):
        for kind in BOTH:
            sale = kind(RANKS)
            self.same([sale.sell("zz", 7), sale.sell("a", 0)], [[], []])
            self.same(state(sale), [[("one", 0), ("two", 0), ("three", 0)], [("one", 3), ("two", 2), ("three", 4)],
                                    {"a": 0, "zz": 7}, ["zz", "a"], {}, False, f"{word(kind)}(2 sold)"])
            self.same([sale.sell("b", 1), sale.ended, sale.sell("c", 1), sale.ended], [[("one", 1)], True, [], True])

    def test_no_demands(self):
        for kind in BOTH:
            for ranks in (RankList(), RankList(Claim("held", None, 9, ("a", "b")))):
                sale = kind(ranks)
                self.same(state(sale), [[], [], {}, [], {}, True, f"{word(kind)}(0 sold)"])
                self.same(sale.sell("a", 5), [])
                self.same(state(sale), [[], [], {"a": 5}, ["a"], {}, True, f"{word(kind)}(1 sold)"])

    def test_great_numbers(self):
        great = 10 ** 5000
        ranks = RankList(Claim("one", "ann", great, ("a", "b")), Claim("two", "bob", great, ("a",)))
        for kind in BOTH:
            sale = kind(ranks)
            self.same([sale.sell("a", great + 5), sale.sell("b", great - 1)],
                      [[("one", great), ("two", 5)], [] if kind is Sale else [("two", great - 5)]])

    def test_errors_in_their_order(self):
        for kind in BOTH:
            sale = kind(RANKS)
            sale.sell("b", 2)
            before = state(sale)
            for value in any_values():
                for price in (1, -1, value):
                    self.fails(InvalidName, lambda: sale.sell(value, price), value)
                if not is_plain_price(value):
                    for parcel in ("a", "b", "zz"):
                        self.fails(InvalidPrices, lambda: sale.sell(parcel, value), parcel)
            for price in (0, 2, 10 ** 12):
                self.fails(Sold, lambda: sale.sell("b", price), "b")
            self.same(state(sale), before)
            sale.sell("zz", 0)
            self.fails(Sold, lambda: sale.sell("zz", 1), "zz")
            self.fails(Sold, lambda: sale.twin().sell("zz", 1), "zz")

    def test_any_order(self):
        for rng, ranks, prices in random_cases("sales", 150):
            demands = ranks.demands()
            parcels = sorted({parcel for _, _, lot in demands for parcel in lot} | set(prices))
            order = rng.sample(parcels, len(parcels))
            self.check(Sale(ranks), demands, prices, order, lambda so_far, ahead: plain_sale(demands, so_far, ahead))
            self.check(FairSale(ranks), demands, prices, order, None)
            got = dict(plain_totals(ranks, prices))
            end = row_of(demands, plain_sale(demands, prices, order))
            for at, (name, _, _) in enumerate(demands):
                self.assertGreaterEqual(end[at], foul_pay(ranks, prices, name))
            if demands:
                self.assertEqual(end[0], got[demands[0][0]])

    def check(self, sale, demands, prices, order, taken):
        """Sells in this order; looks at all that is told behind each call."""
        before = [0] * len(demands)
        names = [name for name, _, _ in demands]
        for at, parcel in enumerate(order):
            gains = sale.sell(parcel, prices.get(parcel, 0))
            ahead = order[:at + 1]
            so_far = {name: prices.get(name, 0) for name in ahead}
            if taken is None:
                ranks = RankList(*[Claim(name, "ann", amount, lot) for name, amount, lot in demands])
                row = [total for _, total in plain_totals(ranks, so_far)]
                self.is_plain_plan(demands, so_far, sale.plan())
                self.assertEqual(row_of(demands, sale.plan()), row)
            else:
                plan = taken(so_far, ahead)
                row = row_of(demands, plan)
                self.same(sale.plan(), {pair: plan[pair] for pair in sorted(plan)})
            self.same(sale.totals(), list(zip(names, row)))
            self.same(sale.owed(), [(name, amount - total) for (name, amount, _), total in zip(demands, row)])
            self.assertTrue(all(new >= old for new, old in zip(row, before)))
            self.same(gains, [(name, new - old) for name, new, old in zip(names, row, before) if new > old])
            self.same([sale.order(), sale.sold()], [ahead, dict(sorted(so_far.items()))])
            self.assertIs(sale.ended, all(parcel in ahead for _, _, lot in demands for parcel in lot))
            before = row

    def test_lots_of_one_parcel(self):
        for at in range(60):
            rng = random.Random(f"lots {at}")
            rows = [Claim(name, "ann", rng.randint(1, 6), (rng.choice("abc"),)) for name in "pqrst"]
            ranks = RankList(*rows)
            prices = {parcel: rng.randint(0, 12) for parcel in "abc"}
            plain, fair = Sale(ranks), FairSale(ranks)
            for parcel in rng.sample("abc", 3):
                self.same(plain.sell(parcel, prices[parcel]), fair.sell(parcel, prices[parcel]))
                self.same([plain.totals(), plain.plan()], [fair.totals(), fair.plan()])
            self.same(fair.totals(), plain_totals(ranks, prices))

    def test_twins_that_are_led_apart(self):
        for kind in BOTH:
            sale = kind(RANKS)
            sale.sell("b", 4)
            other = sale.twin()
            before = state(sale)
            self.same(state(other), before)
            other.sell("a", 2)
            self.same(state(sale), before)
            behind = state(other)
            sale.sell("zz", 1)
            self.same(sale.sell("a", 9)[-1], ("three", 4))
            self.same(state(other), behind)
            self.same([other.sold(), sale.sold()], [{"a": 2, "b": 4}, {"a": 9, "b": 4, "zz": 1}])

    def test_what_is_told_is_new(self):
        for kind in BOTH:
            sale = kind(RANKS)
            sale.sell("b", 4).clear()
            before = state(sale)
            for call in (sale.totals, sale.owed, sale.sold, sale.order, sale.plan):
                call().clear()
            self.same(state(sale), before)


if __name__ == "__main__":
    unittest.main()
