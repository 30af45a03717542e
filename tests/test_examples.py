"""The examples of the document."""

import unittest

from deedranks.claims import Claim
from deedranks.entries import Entry
from deedranks.errors import InvalidAmount
from deedranks.foul import foul_pay
from deedranks.granting import fewest_steps
from deedranks.layers import layers, least_price
from deedranks.office import Office
from deedranks.plats import Plat
from deedranks.rankdeeds import changed
from deedranks.ranks import RankList
from deedranks.sales import FairSale, Sale
from deedranks.shares import Share
from deedranks.titles import Titles
from deedranks.totals import totals
from deedranks.ways import Ways
from support import Case


class Examples(Case):
    def test_the_passing_1_becomes_void(self):
        titles = Titles({"a": "ann"})
        titles.give(1, ("a",), "ann", "bob", Share(1))
        titles.give(2, ("a",), "bob", "cyd", Share(1, 2), good=True)
        titles.give(3, ("a",), "bob", "dan", Share(1, 2))
        titles.void(4, 1)
        self.same([str(titles.share_of("a", "ann")), str(titles.share_of("a", "cyd")), titles.chain("a", Share(3, 4))],
                  ["1/2", "1/2", [(1, ("ann",), "bob", False), (3, ("bob",), "dan", False)]])

    def test_only_a_fronts_the_road(self):
        ways = Ways(Plat([["c", "b", "a"]], road=[(0, 2)]), [("b", "c")])
        self.same([ways.bare(), ways.reached("b"), fewest_steps(ways)[0]],
                  [["b", "c"], ["b", "c"], [("b", "a"), ("c", "b")]])

    def test_a_parcel_that_is_released(self):
        ranks = RankList(Claim("one", "ann", 1, ("a", "b")), Claim("two", "bob", 1, ("a",)))
        prices = {"a": 1, "b": 1}
        self.same([totals(changed(ranks, ("release", "one", "b")), prices),
                   totals(changed(ranks, ("release", "one", "a")), prices)],
                  [[("one", 1), ("two", 0)], [("one", 1), ("two", 1)]])
        self.same([changed(ranks, ("release", "one", "b")).demands(), changed(ranks, ("release", "one", "a")).demands()],
                  [[("one", 1, ("a",)), ("two", 1, ("a",))], [("one", 1, ("b",)), ("two", 1, ("a",))]])

    def test_totals_and_a_foul_pay(self):
        ranks = RankList(Claim("one", "ann", 1, ("a", "b")), Claim("two", "bob", 1, ("a",)))
        prices = {"a": 1, "b": 1}
        self.same([totals(ranks, prices), foul_pay(ranks, prices, "two")], [[("one", 1), ("two", 1)], 0])

    def test_the_coins_of_one_parcel(self):
        ranks = RankList(Claim("one", "ann", 3, ("a", "b")), Claim("two", "bob", 2, ("a",)),
                         Claim("three", "cyd", 4, ("a", "b")))
        self.same([list(layers(ranks, {"b": 2}, "a")), least_price(ranks, {"b": 2}, "a", "three", 1)],
                  [[("one", 0, 1), ("two", 1, 3), ("three", 3, 7)], 4])

    def test_a_sale_and_a_fair_sale(self):
        ranks = RankList(Claim("one", "ann", 1, ("a", "b")), Claim("two", "bob", 1, ("a",)))
        plain = Sale(ranks)
        fair = FairSale(ranks)
        self.same([plain.sell("a", 1), plain.sell("b", 1), plain.ended, fair.sell("a", 1), fair.sell("b", 1),
                   fair.totals()],
                  [[("one", 1)], [], True, [("one", 1)], [("two", 1)], [("one", 1), ("two", 1)]])

    def test_entries_that_arrive_in_another_order(self):
        office = Office(Plat([["a", "a", "b"]], road=[(0, 0)]), {"a": "ann", "b": "bob"})
        office.put(Entry(2, 5, 6, ("charge", "one", "cyd", 100, ("a",), ("ann",), False)))
        office.put(Entry(1, 3, 4, ("gift", ("a",), "ann", "dan", Share(1, 3))))
        self.same([office.idle(day=9, known=9), office.idle(day=9, known=5),
                   str(office.roll(day=4, known=9).titles().share_of("a", "dan"))], [{2: "NotOwner"}, {}, "1/3"])

    def test_a_claim_of_nothing(self):
        self.fails(InvalidAmount, lambda: Claim("one", "ann", 0, ("a",)), 0)

    def test_the_texts_of_shares(self):
        self.same([str(Share(3, 4)), str(Share(0)), str(Share(-1, 2)), repr(Share(3, 4))],
                  ["3/4", "0", "-1/2", "Share(3, 4)"])


if __name__ == "__main__":
    unittest.main()
