"""Shares: [4]."""

import unittest
from fractions import Fraction

from deedranks.errors import InvalidNumber, InvalidShare
from deedranks.shares import Share
from support import Case, any_values

TERMS = [(0, 1), (0, 7), (1, 1), (3, 4), (6, 8), (-1, 2), (-6, 4), (5, 1), (12, 4), (7, 60), (-10 ** 12, 10 ** 12 - 1)]


def plain(share):
    return Fraction(share.top, share.bottom)


class Making(Case):
    def test_lowest_terms(self):
        for top, bottom in TERMS:
            share = Share(top, bottom)
            exact = Fraction(top, bottom)
            self.assertEqual((share.top, share.bottom), (exact.numerator, exact.denominator))
        self.assertEqual([(Share(0, 5).top, Share(0, 5).bottom), (Share(4).top, Share(4).bottom)], [(0, 1), (4, 1)])
        share = Share(bottom=8, top=-6)
        self.assertEqual((share.top, share.bottom), (-3, 4))

    def test_wrong_terms_in_their_order(self):
        for value in any_values():
            if not isinstance(value, int) or isinstance(value, bool):
                self.fails(InvalidNumber, lambda: Share(value), value)
                self.fails(InvalidNumber, lambda: Share(value, 0), value)
                self.fails(InvalidNumber, lambda: Share(1, value), value)
                self.fails(InvalidNumber, lambda: Share(bottom="x", top=value), value)
        for bottom in (0, -1, True, False):
            self.fails(InvalidNumber, lambda: Share(1, bottom), bottom)
        self.fails(InvalidNumber, lambda: Share(True), True)
        self.fails(InvalidNumber, lambda: Share(-10 ** 5000, -10 ** 5000), -10 ** 5000)

    def test_text_and_repr(self):
        self.assertEqual([str(Share(*terms)) for terms in TERMS[:9]],
                         ["0", "0", "1", "3/4", "3/4", "-1/2", "-3/2", "5", "3"])
        self.assertEqual([repr(Share(6, 8)), repr(Share(0)), repr(Share(-2, 4))],
                         ["Share(3, 4)", "Share(0, 1)", "Share(-1, 2)"])

    def test_long_numbers_can_be_written(self):
        share = Share(10 ** 5000, 3)
        self.assertEqual(str(share), "1" + "0" * 5000 + "/3")
        self.assertEqual(repr(share), "Share(1" + "0" * 5000 + ", 3)")


class Reckoning(Case):
    def test_against_fractions(self):
        shares = [Share(*terms) for terms in TERMS]
        for left in shares:
            for right in shares:
                self.assertEqual(plain(left + right), plain(left) + plain(right))
                self.assertEqual(plain(left - right), plain(left) - plain(right))
                self.assertEqual(plain(left * right), plain(left) * plain(right))
                self.assertIs(left.less(right), plain(left) < plain(right))
                self.assertIs(left.less(other=right), plain(left) < plain(right))
                self.assertIs(left == right, plain(left) == plain(right))
                self.assertIs(left != right, plain(left) != plain(right))

    def test_results_are_in_lowest_terms(self):
        for share in (Share(1, 4) + Share(1, 4), Share(3, 4) - Share(1, 4), Share(2, 3) * Share(3, 4), 2 * Share(1, 4)):
            self.assertEqual((share.top, share.bottom), (1, 2))
        share = Share(1, 3) - Share(1, 3)
        self.assertEqual((share.top, share.bottom), (0, 1))

    def test_multiples_from_both_sides(self):
        for many in (0, 1, -3, 60, 10 ** 20):
            for share in (Share(3, 4) * many, many * Share(3, 4)):
                self.assertIsInstance(share, Share)
                self.assertEqual(plain(share), Fraction(3, 4) * many)

    def test_other_kinds(self):
        for value in any_values():
            if isinstance(value, Share):
                continue
            self.assertIs(Share(1) == value, False)
            self.assertIs(value == Share(1), False)
            self.assertIs(Share(1) != value, True)
            for call in (lambda: Share(1) + value, lambda: value + Share(1), lambda: Share(1) - value):
                with self.assertRaises((TypeError, ValueError)):
                    call()
        for value in (True, False, None, "a", 1.5):
            for call in (lambda: Share(1) * value, lambda: value * Share(1)):
                self.assertRaises(TypeError, call)

    def test_shares_never_change(self):
        left, right = Share(1, 2), Share(1, 3)
        for _ in (left + right, left - right, left * right, left * 5, 5 * left, left.less(right), str(left)):
            self.assertEqual((left.top, left.bottom, right.top, right.bottom), (1, 2, 1, 3))


class Reading(Case):
    def test_back_and_forth(self):
        for top, bottom in TERMS[:10] + [(10 ** 12 - 1, 10 ** 12 - 2), (-10 ** 12 + 1, 1)]:
            share = Share(top, bottom)
            self.assertEqual(Share.read(str(share)), share)
            self.assertEqual(Share.read(text=str(share)), share)
        found = Share.read("-12/35")
        self.assertEqual((found.top, found.bottom), (-12, 35))

    def test_wrong_texts(self):
        for text in ("-0", "2/4", "3/1", "0/1", "0/5", "01", "00", "1/02", "01/2", "+1", "+1/2", "1/-2", "--1", "1/+2",
                     " 1", "1 ", "1 /2", "1/ 2", "1/2 ", "1/2\n", "1\n", "", "/", "1/", "/2", "-", "-/2", "1/0", "0/0",
                     "1/2/3", "1//2", "a", "1_0", "1.5", "0x1", "1" + "0" * 12, "1/" + "1" + "0" * 12, "-1" + "0" * 12,
                     "0" * 13, "-0/1", "1e3"):
            self.fails(InvalidShare, lambda: Share.read(text), text)

    def test_values_that_are_no_texts(self):
        for value in any_values():
            if value not in ("1/2", "1"):
                self.fails(InvalidShare, lambda: Share.read(value), value)

    def test_the_longest_texts(self):
        share = Share.read("9" * 12 + "/" + "9" * 11 + "8")
        self.assertEqual((share.top, share.bottom), (10 ** 12 - 1, 10 ** 12 - 2))


if __name__ == "__main__":
    unittest.main()
