"""Totals, right plans and pays, [25], and what changes by one coin more, [30]."""

import random
import unittest

from deedranks.claims import Claim
from deedranks.ranks import RankList
from deedranks.totals import is_right, pays, right_plan, sums, totals
from support import Case, all_plans, any_values, plain_sum, plain_totals, random_cases, row_of

RANKS = RankList(Claim("one", "eve", 3, ("a", "b")), Claim("held", None, 9, ("a", "b")), Claim("two", "bob", 4, ("b",)),
                 Claim("a", "eve", 5, ("a", "c")), Claim("five", "ann", 2, ("d",)))
PRICES = {"c": 1, "b": 5, "a": 2, "z": 7}


class Totals(Case):
    def test_some(self):
        self.same(totals(RANKS, PRICES), [("one", 3), ("held", 0), ("two", 4), ("a", 1), ("five", 0)])
        self.same(sums(RANKS, PRICES), [3, 7, 8, 8])
        self.same(pays(RANKS, PRICES), {"ann": 0, "bob": 4, "eve": 4})
        self.same(totals(prices={"d": 9}, ranks=RANKS), [("one", 0), ("held", 0), ("two", 0), ("a", 0), ("five", 2)])
        self.same(pays(prices={"b": 9, "a": 9}, ranks=RANKS), {"ann": 0, "bob": 4, "eve": 8})
        self.same(sums(prices={}, ranks=RANKS), [0, 0, 0, 0])

    def test_lists_without_claims_and_without_demands(self):
        held = RankList(Claim("two", None, 4, ("b",)), Claim("one", None, 4, ("a", "b")))
        for ranks, rows in ((RankList(), []), (held, [("two", 0), ("one", 0)])):
            for prices in ({}, {"a": 3, "b": 2}):
                self.same([totals(ranks, prices), sums(ranks, prices), pays(ranks, prices)], [rows, [], {}])
                self.same([right_plan(ranks, prices), is_right(ranks, prices, {})], [{}, True])
                self.assertIs(is_right(ranks, prices, {("one", "a"): 1}), False)

    def test_against_least_cuts(self):
        for rng, ranks, prices in random_cases("totals", 300):
            expected = plain_totals(ranks, prices)
            self.same(totals(ranks, prices), expected)
            demands = ranks.demands()
            self.same(sums(ranks, prices), [plain_sum(demands[:at + 1], prices) for at in range(len(demands))])
            owners = sorted({claim.owner for claim in ranks if claim.owner is not None})
            got = dict(expected)
            self.same(pays(ranks, prices),
                      {person: sum(got[claim.name] for claim in ranks if claim.owner == person) for person in owners})
            turned = {name: prices[name] for name in rng.sample(sorted(prices), len(prices))}
            self.same([totals(ranks, turned), pays(ranks, turned), right_plan(ranks, turned)],
                      [totals(ranks, prices), pays(ranks, prices), right_plan(ranks, prices)])

    def test_right_plans(self):
        for rng, ranks, prices in random_cases("right", 200):
            demands = ranks.demands()
            plan = right_plan(ranks, prices)
            self.is_plain_plan(demands, prices, plan)
            self.assertEqual(row_of(demands, plan),
                             [dict(plain_totals(ranks, prices))[name] for name, _, _ in demands])
            self.assertIs(is_right(ranks, prices, plan), True)
            self.assertIs(is_right(ranks, prices, {pair: plan[pair] for pair in reversed(plan)}), True)
            for pair in plan:
                rest = {key: plan[key] for key in plan if key != pair}
                self.assertIs(is_right(ranks, prices, rest), False)
                self.assertIs(is_right(ranks, prices, {**plan, pair: plan[pair] + 1}), False)

    def test_against_all_plans(self):
        found = 0
        for at in range(40):
            rng = random.Random(f"plans {at}")
            ranks = RankList(*[Claim(name, "ann", rng.randint(1, 2), rng.choice([("p",), ("q",), ("p", "q")]))
                               for name in ("c", "a", "b")])
            prices = {"q": rng.randint(0, 2), "p": rng.randint(0, 2)}
            demands = ranks.demands()
            plans = list(all_plans(demands, prices))
            greatest = max(row_of(demands, plan) for plan in plans)
            self.assertEqual([number for _, number in totals(ranks, prices)], greatest)
            for plan in plans:
                self.assertIs(is_right(ranks, prices, plan), row_of(demands, plan) == greatest)
                found += row_of(demands, plan) == greatest
        self.assertGreater(found, 40)

    def test_values_of_any_kind(self):
        for value in any_values():
            self.assertIs(is_right(RANKS, PRICES, value), False)
            self.assertIs(is_right(RANKS, {}, value), value == {})
            self.assertIs(is_right(RANKS, PRICES, {("one", "a"): value}), False)
        right = {("one", "a"): 2, ("one", "b"): 1, ("two", "b"): 4, ("a", "c"): 1}
        self.assertIs(is_right(value=right, prices=PRICES, ranks=RANKS), True)
        for wrong in ({**right, ("held", "a"): 1}, {**right, ("a", "c"): True}, {**right, ("five", "d"): 1}, [right],
                      {("one", "a"): 2, ("one", "b"): 1, ("two", "b"): 4},
                      {("one", "b"): 3, ("two", "b"): 2, ("a", "a"): 2, ("a", "c"): 1}):
            self.assertIs(is_right(RANKS, PRICES, wrong), False)
        other = {("one", "a"): 1, ("one", "b"): 1, ("two", "b"): 4, ("a", "a"): 1, ("a", "c"): 1}
        self.assertIs(is_right(RANKS, PRICES, other), False)

    def test_24_claims_and_great_numbers(self):
        rng = random.Random("great")
        parcels = list("abcdefghijklmnop")
        for most in (4, 10 ** 12, 10 ** 30):
            rows = [Claim(name + "x", rng.choice(["ann", "bob", None]), rng.randint(1, most),
                          tuple(sorted(rng.sample(parcels, 12)))) for name in "qwertyuiopasdfghjklzxcvb"]
            ranks, prices = RankList(*rows), {parcel: rng.randint(0, most) for parcel in parcels}
            self.same(totals(ranks, prices), totals(ranks, dict(sorted(prices.items(), reverse=True))))
            whole = 0
            for at, (name, number) in enumerate(totals(ranks, prices)):
                # All lots are large, so nothing but the sum of the prices keeps the first demands from more.
                amount = 0 if ranks.claim(name).reserved else ranks.claim(name).amount
                self.assertLessEqual(number, amount)
                whole += number
            self.assertEqual(sums(ranks, prices)[-1], whole)
            self.assertEqual(sum(pays(ranks, prices).values()), whole)
            self.assertIs(is_right(ranks, prices, right_plan(ranks, prices)), True)

    def test_what_is_passed_stays_and_what_is_returned_is_new(self):
        prices = dict(PRICES)
        for call in (sums, totals, pays, right_plan):
            call(RANKS, prices).clear()
            self.assertEqual(call(RANKS, prices), call(RANKS, PRICES))
            self.assertNotEqual(call(RANKS, prices), call(RankList(), PRICES))
        self.assertEqual([prices, list(prices)], [PRICES, list(PRICES)])


class OneCoinMore(Case):
    def changes(self, ranks, prices, others, theirs):
        before, after = totals(ranks, prices), totals(others, theirs)
        self.assertEqual([name for name, _ in before], [name for name, _ in after][:len(before)])
        return [new - old for (_, old), (_, new) in zip(before, after)]

    def test_a_price(self):
        seen = set()
        for rng, ranks, prices in random_cases("price", 150):
            for parcel in ("a", "b", "c", "zz"):
                more = {**prices, parcel: prices.get(parcel, 0) + 1}
                found = self.changes(ranks, prices, ranks, more)
                self.assertIn(sorted(found, reverse=True), ([0] * len(found), [1] + [0] * (len(found) - 1)))
                seen.add(sum(found))
        self.assertEqual(seen, {0, 1})

    def test_an_amount(self):
        seen = set()
        for rng, ranks, prices in random_cases("amount", 150):
            for at, claim in enumerate(ranks):
                rows = ranks.claims()
                rows[at] = claim.with_amount(claim.amount + 1)
                found = self.changes(ranks, prices, RankList(*rows), prices)
                self.assertEqual(found[:at], [0] * at)
                self.assertIn(found[at], (0, 1) if not claim.reserved else (0,))
                self.assertIn(sorted(found[at + 1:]), ([0] * (len(found) - at - 1), [-1] + [0] * (len(found) - at - 2)))
                seen.add((found[at], sum(found)))
        self.assertEqual(seen, {(0, 0), (1, 1), (1, 0)})

    def test_one_claim_more_behind_all(self):
        for rng, ranks, prices in random_cases("behind", 100):
            for owner in ("ann", None):
                more = ranks + Claim("new", owner, rng.randint(1, 5), ("a", "c"))
                self.assertEqual(self.changes(ranks, prices, more, prices), [0] * len(ranks))
                self.assertEqual(totals(more, prices), plain_totals(more, prices))

    def test_parcels_in_the_lots_of_the_same_demands(self):
        for rng, ranks, prices in random_cases("same", 60):
            twice = RankList(*[claim.with_lot(tuple(sorted([*claim.lot, "ax"]))) if "a" in claim.lot else claim
                               for claim in ranks])
            price = prices.get("a", 0)
            for part in range(price + 1):
                self.assertEqual(totals(twice, {**prices, "a": part, "ax": price - part}), totals(ranks, prices))


if __name__ == "__main__":
    unittest.main()
