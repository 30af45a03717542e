"""Statements of rank lists."""

import inspect
import unittest

from deedranks.claims import Claim
from deedranks.listing import statement
from deedranks.ranks import RankList
from support import Case, plain_totals, random_cases

RANKS = RankList(Claim("one", "ann", 1000, ("a", "b")), Claim("abcdef", None, 999, ("a",)),
                 Claim("two", "uvwxyz", 999999999999, ("a",)), Claim("x", "y", 12345, ("a",)))


def grouped(number):
    """Digits with commas between groups of three, from the right."""
    digits = number if isinstance(number, str) else str(number)
    return digits if len(digits) <= 3 else grouped(digits[:-3]) + "," + digits[-3:]


def row(rank, name, owner, amount, total):
    return " ".join([str(rank).rjust(3), name.ljust(6), owner.ljust(6), grouped(amount).rjust(14),
                     grouped(total).rjust(14)])


class Statements(Case):
    def test_one(self):
        self.same(list(statement(RANKS, {"a": 1234567, "b": 1})), [
            "  1 one    ann             1,000          1,000",
            "  2 abcdef -                 999              0",
            "  3 two    uvwxyz 999,999,999,999      1,233,568",
            "  4 x      y              12,345              0",
        ])
        self.same(list(statement(prices={}, ranks=RANKS))[2], "  3 two    uvwxyz 999,999,999,999              0")

    def test_no_claims(self):
        self.same([list(statement(RankList(), {})), list(statement(RankList(), {"a": 5}))], [[], []])

    def test_groups_of_three_digits(self):
        for number in (1, 9, 10, 99, 100, 999, 1000, 9999, 10000, 99999, 100000, 999999, 10 ** 6, 10 ** 9, 10 ** 10,
                       10 ** 11, 10 ** 12, 10 ** 13, 10 ** 14, 10 ** 30 + 7):
            ranks = RankList(Claim("one", "ann", number, ("a",)))
            self.same(list(statement(ranks, {"a": number})), [row(1, "one", "ann", number, number)])
            self.same(list(statement(ranks, {"a": number - 1})), [row(1, "one", "ann", number, number - 1)])

    def test_beyond_the_width(self):
        ranks = RankList(Claim("one", "ann", 10 ** 11, ("a",)), Claim("two", "bob", 10 ** 10, ("b",)))
        self.same(list(statement(ranks, {"a": 10 ** 12, "b": 10 ** 12})), [
            "  1 one    ann    100,000,000,000 100,000,000,000",
            "  2 two    bob    10,000,000,000 10,000,000,000",
        ])
        great = RankList(Claim("one", "ann", 10 ** 5000, ("a",)))
        expected = "  1 one    ann    100" + ",000" * 1666 + " 100" + ",000" * 1666
        self.same(list(statement(great, {"a": 10 ** 5000})), [expected])

    def test_24_claims(self):
        ranks = RankList(*[Claim(name, "ann", 5, ("a",)) for name in "abcdefghijklmnopqrstuvwx"])
        lines = list(statement(ranks, {"a": 118}))
        self.same([line[:10] for line in lines[8:11]], ["  9 i     ", " 10 j     ", " 11 k     "])
        self.same(lines[23], " 24 x      ann                 5              3")
        self.assertEqual({len(line) for line in lines}, {47})

    def test_against_plain_totals(self):
        for _, ranks, prices in random_cases("listing", 60):
            rows = [row(at + 1, claim.name, claim.owner or "-", claim.amount, total)
                    for at, (claim, (_, total)) in enumerate(zip(ranks, plain_totals(ranks, prices)))]
            self.same(list(statement(ranks, prices)), rows)

    def test_a_generator(self):
        self.assertTrue(inspect.isgenerator(statement(RANKS, {})))
        wrong = statement(RANKS, {"a": -1})
        with self.assertRaises(ValueError):
            next(wrong)
        self.fails_by_prices(lambda prices: next(statement(RANKS, prices)))
        self.fails_by_prices(lambda prices: list(statement(RankList(), prices)))
        prices = {"a": 5}
        lines = statement(RANKS, prices)
        next(lines)
        self.same(prices, {"a": 5})


if __name__ == "__main__":
    unittest.main()
