"""Names, lots, amounts, prices, days and numbers: [3]."""

import unittest

from deedranks.words import is_amount, is_day, is_lot, is_name, is_number, is_price
from deedranks.words import number_text, read_number, text_lines
from support import any_values


def lot_of(many):
    return tuple("abcdefghijklmnopqrstuvwxyz"[:many])


class Words(unittest.TestCase):
    def check(self, call, good, bad):
        for value in good:
            self.assertIs(call(value), True, repr(value))
            self.assertIs(call(value=value), True, repr(value))
        for value in bad:
            self.assertIs(call(value), False, repr(value))
            self.assertIs(call(value=value), False, repr(value))

    def test_names(self):
        good = ["a", "z", "ab", "abcdef", "zzzzzz", "yield"]
        self.check(is_name, good, any_values() + ["abcdefg", "", "aB", "a-b", "a_b", "a ", " a", "\n", "a\n", "ab1", "\u00e4", "a\u00df"])

    def test_lots(self):
        good = [("a",), ("a", "b"), ("a", "aa", "b"), lot_of(11), lot_of(12)]
        bad = [(), lot_of(13), ("b", "a"), ("a", "a"), ("a", "b", "b"), ["a"], "a", ("a", "B"), ("a", ""), ("",),
               ("a", 1), (1, 2), (None,), (["a"],), (("a",),), {"a": 1}, ("a", "c", "b"), ("abcdefg",), ([],), ({},)]
        self.check(is_lot, good, any_values() + bad)

    def test_amounts(self):
        self.check(is_amount, [1, 2, 10 ** 12 - 1, 10 ** 12, 10 ** 50], [0, -1, True, False, None, "1", (1,), [1], {}])
        self.assertEqual([value for value in any_values() if is_amount(value)], [1, 10 ** 12])

    def test_prices(self):
        self.check(is_price, [0, 1, 10 ** 12, 10 ** 50], [-1, -10 ** 12, True, False, None, "0", (0,), [0], {}])
        self.assertEqual([value for value in any_values() if is_price(value)], [0, 1, 10 ** 12])

    def test_days(self):
        self.check(is_day, [0, 1, 9998, 9999], [-1, 10000, True, False, None, "0", (0,), [0], {}, 10 ** 12])
        self.assertEqual([value for value in any_values() if is_day(value)], [0, 1])

    def test_numbers(self):
        for value in (-3, -2, 0, 4, 5):
            self.assertIs(is_number(value, -3, 5), True)
            self.assertIs(is_number(most=5, least=-3, value=value), True)
        for value in (-4, 6, True, False, None, "1", (1,), [1], {1: 1}):
            self.assertIs(is_number(value, -3, 5), False)
        self.assertIs(is_number(7, 7, 7), True)
        self.assertIs(is_number(7, 8, 6), False)
        found = [value for value in any_values() if is_number(value, -10 ** 50, 10 ** 50)]
        self.assertEqual(found, [0, 1, -1, -5, 10 ** 12, -10 ** 40])

    def test_no_argument_is_changed(self):
        value = [["a"], {"b": [1]}]
        for call in (is_name, is_lot, is_amount, is_price, is_day):
            call(value)
        self.assertEqual(value, [["a"], {"b": [1]}])


class Texts(unittest.TestCase):
    def test_digits_of_numbers_of_any_size(self):
        for number in (0, 1, -1, 10 ** 59, 10 ** 60 - 1, 10 ** 60, 10 ** 60 + 7, 10 ** 120, -10 ** 121, 3 ** 500):
            self.assertEqual(number_text(number), str(number))
        self.assertEqual(number_text(10 ** 6000), "1" + "0" * 6000)
        self.assertEqual(number_text(-10 ** 6000 - 5), "-1" + "0" * 5999 + "5")

    def test_numbers_without_leading_zeros(self):
        self.assertEqual([read_number(text) for text in ("0", "7", "10", "9" * 12)], [0, 7, 10, 10 ** 12 - 1])
        for text in ("", "00", "07", "-1", "+1", " 1", "1 ", "1_0", "1.0", "a", "1" * 13, "0" * 13, "\u00b2", "\u0661"):
            self.assertIsNone(read_number(text))

    def test_lines(self):
        self.assertEqual(text_lines(""), [])
        self.assertEqual(text_lines("a\n\nb\n"), ["a", "", "b"])
        self.assertEqual(text_lines("a\nb"), ["a", None])
        self.assertEqual(text_lines("\n "), ["", None])


if __name__ == "__main__":
    unittest.main()
