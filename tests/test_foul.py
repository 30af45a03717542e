"""Foul pays, foul plans and safe claims: [28]."""

import random
import unittest

from deedranks.claims import Claim
from deedranks.errors import Reserved, UnknownClaim
from deedranks.foul import drawn_most, foul_pay, foul_plan, is_safe
from deedranks.ranks import RankList
from support import Case, all_plans, any_values, plain_sum, plain_totals, random_cases, row_of

CALLS = (drawn_most, foul_pay, foul_plan, is_safe)
RANKS = RankList(Claim("one", "ann", 1, ("a", "b")), Claim("held", None, 2, ("a",)), Claim("two", "bob", 1, ("a",)))


class Foul(Case):
    def test_one(self):
        prices = {"b": 1, "a": 1}
        self.same([drawn_most(RANKS, prices, "two"), foul_pay(RANKS, prices, "two")], [1, 0])
        self.same([foul_plan(RANKS, prices, "two"), is_safe(RANKS, prices, "two")], [{("one", "a"): 1}, False])
        self.same([call(RANKS, prices, "one") for call in CALLS], [0, 1, {}, True])
        self.same([call(name="two", prices={"a": 2}, ranks=RANKS) for call in CALLS], [1, 1, {("one", "a"): 1}, True])
        self.same([call(RANKS, {}, "two") for call in CALLS], [0, 0, {}, True])
        # The elder demand gets nothing out of the lot, since it has no parcel there.
        ranks = RankList(Claim("one", "ann", 9, ("c",)), Claim("two", "bob", 10 ** 40, ("a", "b")))
        self.same([call(ranks, {"a": 10 ** 39, "b": 2, "c": 5}, "two") for call in CALLS],
                  [0, 10 ** 39 + 2, {("one", "c"): 5}, True])

    def test_against_cuts(self):
        foul = 0
        for rng, ranks, prices in random_cases("foul", 300):
            got = dict(plain_totals(ranks, prices))
            elders = []
            for claim in ranks:
                if claim.owner is None:
                    continue
                most = plain_sum(elders, prices, claim.lot)
                pay = min(claim.amount, sum(prices.get(parcel, 0) for parcel in claim.lot) - most)
                self.same(drawn_most(ranks, prices, claim.name), most)
                self.same(foul_pay(ranks, prices, claim.name), pay)
                self.assertGreaterEqual(got[claim.name], pay)
                self.assertIs(is_safe(ranks, prices, claim.name), got[claim.name] == pay)
                foul += got[claim.name] > pay
                plan = foul_plan(ranks, prices, claim.name)
                self.is_plain_plan(elders, prices, plan)
                self.assertEqual(row_of(elders, plan), [got[name] for name, _, _ in elders])
                self.assertEqual(sum(plan[pair] for pair in plan if pair[1] in claim.lot), most)
                turned = {name: prices[name] for name in rng.sample(sorted(prices), len(prices))}
                self.same(foul_plan(ranks, turned, claim.name), plan)
                elders.append(claim.demand())
        self.assertGreater(foul, 10)

    def test_against_all_plans_of_the_elder_demands(self):
        for at in range(40):
            rng = random.Random(f"foul {at}")
            ranks = RankList(*[Claim(name, "ann", rng.randint(1, 2), rng.choice([("p",), ("q",), ("p", "q")]))
                               for name in ("c", "a", "b")])
            prices = {"q": rng.randint(0, 2), "p": rng.randint(0, 2)}
            elders, claim = ranks.elders("b"), ranks.claim("b")
            got = [number for _, number in plain_totals(ranks, prices)][:2]
            least = [min(claim.amount, sum(prices[parcel] - sum(n for key, n in plan.items() if key[1] == parcel)
                                           for parcel in claim.lot))
                     for plan in all_plans(elders, prices) if row_of(elders, plan) == got]
            self.same(foul_pay(ranks, prices, "b"), min(least))

    def test_names_that_are_none(self):
        for value in any_values() + ["three", "ann", "a", "b"]:
            for call in CALLS:
                self.fails(UnknownClaim, lambda: call(RANKS, {"a": 1}, value), value)
                self.fails(UnknownClaim, lambda: call(RankList(), {}, value), value)
        for call in CALLS:
            self.fails(Reserved, lambda: call(RANKS, {"a": 1}, "held"), "held")
            self.fails(UnknownClaim, lambda: call(RankList(), {}, "one"), "one")

    def test_what_is_passed_stays(self):
        prices = {"b": 1, "a": 1}
        for call in CALLS:
            call(RANKS, prices, "two")
        foul_plan(RANKS, prices, "two").clear()
        self.same(foul_plan(RANKS, prices, "two"), {("one", "a"): 1})
        self.assertEqual(list(prices.items()), [("b", 1), ("a", 1)])


if __name__ == "__main__":
    unittest.main()
