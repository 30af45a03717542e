"""Certificates: [26]."""

import random
import unittest

from deedranks.claims import Claim
from deedranks.papers import certificate, judged
from deedranks.ranks import RankList
from support import Case, any_values, least_cuts, plain_totals, plain_value, random_cases

RANKS = RankList(Claim("one", "eve", 3, ("a", "b")), Claim("held", None, 9, ("a", "b")), Claim("two", "bob", 4, ("b",)),
                 Claim("three", "eve", 5, ("a", "c")))
PRICES = {"c": 1, "b": 5, "a": 2, "z": 7}
PLAN = {("one", "a"): 2, ("one", "b"): 1, ("three", "c"): 1, ("two", "b"): 4}
CUTS = [[], [], ["one", "two", "three"]]


def plain_judged(ranks, prices, plan, cuts):
    """The judgement for a plan and a list of cuts."""
    demands = ranks.demands()
    whole = 0
    for at, (name, _, _) in enumerate(demands):
        whole += sum(plan[pair] for pair in plan if pair[0] == name)
        if plain_value(demands[:at + 1], prices, cuts[at]) != whole:
            return ("sum", name)
    return ("right", "")


class Certificates(Case):
    def test_one(self):
        self.same(certificate(RANKS, PRICES), (PLAN, CUTS))
        self.same(certificate(prices=PRICES, ranks=RANKS), (PLAN, CUTS))
        self.same([certificate(RankList(), PRICES), certificate(RankList(Claim("a", None, 1, ("a",))), {})],
                  [({}, []), ({}, [])])

    def test_the_smallest_least_cuts_of_the_first_demands(self):
        for rng, ranks, prices in random_cases("papers", 200):
            demands = ranks.demands()
            plan, cuts = certificate(ranks, prices)
            self.is_plain_plan(demands, prices, plan)
            got = dict(plain_totals(ranks, prices))
            for name, _, _ in demands:
                self.assertEqual(sum(plan[pair] for pair in plan if pair[0] == name), got[name])
            self.assertEqual(len(cuts), len(demands))
            for at, cut in enumerate(cuts):
                least = least_cuts(demands[:at + 1], prices)
                self.same(cut, [name for name, _, _ in demands if all(name in other for other in least)])
            self.same(judged(ranks, prices, plan, cuts), ("right", ""))
            turned = {name: prices[name] for name in rng.sample(sorted(prices), len(prices))}
            self.same(certificate(ranks, turned), (plan, cuts))

    def test_24_claims(self):
        rng = random.Random("papers")
        parcels = list("abcdefghijklmnop")
        rows = [Claim(name, "ann", rng.randint(1, 10 ** 12), tuple(sorted(rng.sample(parcels, 12))))
                for name in "qwertyuiopasdfghjklzxcvb"]
        ranks, prices = RankList(*rows), {parcel: rng.randint(0, 10 ** 12) for parcel in parcels}
        plan, cuts = certificate(ranks, prices)
        self.assertEqual([len(cuts), judged(ranks, prices, plan, cuts)], [24, ("right", "")])
        cuts[23] = ["q"]
        self.assertEqual(judged(ranks, prices, plan, cuts), ("sum", "b"))


class Judged(Case):
    def test_values_of_any_kind(self):
        for value in any_values():
            if value != {}:
                for cuts in (CUTS, value, [value] * 3):
                    self.same(judged(RANKS, PRICES, value, cuts), ("plan", ""))
            self.same(judged(RANKS, PRICES, {**PLAN, ("one", "a"): value}, CUTS),
                      ("sum", "one") if value == 1 and value is not True else ("plan", ""))
            three = isinstance(value, (list, tuple)) and len(value) == 3
            self.same(judged(RANKS, PRICES, PLAN, value), ("cut", "one") if three else ("cuts", ""))
            self.same(judged(RANKS, PRICES, {}, value), ("cut", "one") if three else ("cuts", ""))
            cut = isinstance(value, (list, tuple)) and len(value) == 0
            self.same(judged(RANKS, PRICES, PLAN, [value, 5, 5]), ("cut", "two") if cut else ("cut", "one"))
            self.same(judged(RANKS, PRICES, PLAN, ([], value, 5)), ("cut", "three") if cut else ("cut", "two"))
            self.same(judged(RANKS, PRICES, PLAN, [[], [], value]), ("sum", "three") if cut else ("cut", "three"))
            self.same(judged(RankList(), PRICES, value, value), judged_of_nothing(value))

    def test_plans_that_are_none(self):
        for plan in ({**PLAN, ("held", "a"): 1}, {**PLAN, ("one", "a"): 3}, {("two", "b"): 5}, {("two", "a"): 1},
                     {("three", "c"): 2}, {("four", "a"): 1}):
            self.same(judged(RANKS, PRICES, plan, CUTS), ("plan", ""))
            self.same(judged(RANKS, PRICES, plan, 5), ("plan", ""))

    def test_each_answer(self):
        self.same(judged(cuts=CUTS, plan=PLAN, prices=PRICES, ranks=RANKS), ("right", ""))
        self.same(judged(RANKS, PRICES, PLAN, tuple([tuple(cut) for cut in CUTS])), ("right", ""))
        for cuts in (CUTS[:2], CUTS + [[]], (), {}, "abc", None):
            self.same(judged(RANKS, PRICES, PLAN, cuts), ("cuts", ""))
        # The cut for a demand has no name of a younger one, and no reserved one.
        for cut in (["two"], ["one", "two"], ["held"], ["three"], ["one", "one"], ["four"], "one", None):
            self.same(judged(RANKS, PRICES, PLAN, [cut, [], 5]), ("cut", "one"))
        for cut in (["three"], ["two", "one"], ["held"]):
            self.same(judged(RANKS, PRICES, PLAN, [[], cut, CUTS[2]]), ("cut", "two"))
        self.same(judged(RANKS, PRICES, PLAN, [["one"], [], CUTS[2]]), ("sum", "one"))
        self.same(judged(RANKS, PRICES, PLAN, [[], ["one", "two"], CUTS[2]]), ("right", ""))
        self.same(judged(RANKS, PRICES, PLAN, [[], ["one"], CUTS[2]]), ("sum", "two"))
        self.same(judged(RANKS, PRICES, PLAN, [[], [], []]), ("sum", "three"))
        self.same(judged(RANKS, PRICES, PLAN, [["one"], 5, 5]), ("sum", "one"))
        self.same(judged(RANKS, PRICES, {}, CUTS), ("sum", "one"))

    def test_a_plan_with_the_greatest_sum_that_is_not_right(self):
        ranks = RankList(Claim("one", "ann", 1, ("a",)), Claim("two", "bob", 1, ("a",)))
        for cuts in ([[], ["one", "two"]], [["one"], ["one", "two"]]):
            self.same(judged(ranks, {"a": 1}, {("two", "a"): 1}, cuts), ("sum", "one"))
            self.same(judged(ranks, {"a": 1}, {("one", "a"): 1}, cuts), ("right", ""))

    def test_against_a_plain_judge(self):
        seen = set()
        for rng, ranks, prices in random_cases("judged", 300):
            plan, cuts = certificate(ranks, prices)
            names = [name for name, _, _ in ranks.demands()]
            for at in range(len(cuts)):
                others = [list(cut) for cut in cuts]
                others[at] = [name for name in names[:at + 1] if rng.random() < 0.5]
                expected = plain_judged(ranks, prices, plan, others)
                self.same(judged(ranks, prices, plan, others), expected)
                seen.add(expected[0])
            if plan != {}:
                less = dict(plan)
                del less[rng.choice(sorted(plan))]
                self.same(judged(ranks, prices, less, cuts), plain_judged(ranks, prices, less, cuts))
        self.assertEqual(seen, {"right", "sum"})

    def test_what_is_passed_stays(self):
        prices, plan, cuts = dict(PRICES), dict(PLAN), [list(cut) for cut in CUTS]
        judged(RANKS, prices, plan, cuts)
        found = certificate(RANKS, prices)
        found[0].clear()
        found[1][2].clear()
        found[1].clear()
        self.same([prices, plan, cuts], [PRICES, PLAN, CUTS])
        self.same(certificate(RANKS, prices), (PLAN, CUTS))


def judged_of_nothing(value):
    """The judgement for one value as the plan and the cuts of a list without claims."""
    return ("cuts", "") if value == {} else ("plan", "")


if __name__ == "__main__":
    unittest.main()
