"""Entries and their texts: [39], [40]."""

import unittest

from deedranks.deedtexts import deed_text
from deedranks.entries import Entry, entry_text, read_entry
from deedranks.errors import InvalidDay, InvalidDeed, InvalidNumber
from deedranks.shares import Share
from support import Case, any_values, good_deeds

MERGE = ("merge", "one")


class Entries(Case):
    def test_attributes(self):
        for deed in [deed for deed in good_deeds() if deed != ("instead", 999, ("void", 998))]:
            entry = Entry(999, 0, 9999, deed)
            self.same([entry.number, entry.done, entry.entered, entry.deed], [999, 0, 9999, deed])
            self.same(vars(Entry(deed=deed, entered=7, number=999, done=7)),
                      {"number": 999, "done": 7, "entered": 7, "deed": deed})

    def test_str_and_repr(self):
        sale = Entry(7, 30, 32, ("sale", ("a", "b"), "ann", "bob", Share(1, 2), False))
        self.same([str(sale), repr(sale), entry_text(sale), entry_text(entry=sale)],
                  ["7 30 32 sale a,b ann bob 1/2 good", "Entry(7 30 32 sale a,b ann bob 1/2 good)",
                   "7 30 32 sale a,b ann bob 1/2 good", "7 30 32 sale a,b ann bob 1/2 good"])
        instead = Entry(9, 40, 40, ("instead", 7, ("gift", ("a",), "ann", "bob", Share(1))))
        self.same([str(instead), repr(instead)],
                  ["9 40 40 instead 7 gift a ann bob 1", "Entry(9 40 40 instead 7 gift a ann bob 1)"])
        self.same(repr(Entry(3, 8, 9, ("void", 1))), "Entry(3 8 9 void 1)")

    def test_equal(self):
        entry = Entry(7, 30, 32, MERGE)
        self.assertTrue(entry == Entry(7, 30, 32, ("merge", "one")))
        self.assertFalse(entry != Entry(7, 30, 32, MERGE))
        for other in (Entry(8, 30, 32, MERGE), Entry(7, 31, 32, MERGE), Entry(7, 30, 33, MERGE),
                      Entry(7, 30, 32, ("merge", "two"))):
            self.assertFalse(entry == other)
        shares = [Entry(7, 30, 32, ("gift", ("a",), "ann", "bob", Share(top, 4))) for top in (1, 2, 2)]
        self.assertEqual([shares[0] == shares[1], shares[1] == shares[2]], [False, True])
        knew = [Entry(7, 30, 32, ("sale", ("a",), "ann", "bob", Share(1), flag)) for flag in (True, False)]
        self.assertFalse(knew[0] == knew[1])
        for value in any_values() + [str(entry), (7, 30, 32, MERGE)]:
            self.assertFalse(entry == value)
            self.assertFalse(value == entry)

    def test_numbers_and_days_that_are_wrong(self):
        for value in any_values():
            whole = isinstance(value, int) and not isinstance(value, bool)
            if not whole or not 1 <= value <= 999:
                for day in (3, value):
                    self.fails(InvalidNumber, lambda: Entry(value, day, day, value), value)
            if not whole or not 0 <= value <= 9999:
                self.fails(InvalidDay, lambda: Entry(7, value, 5, MERGE), value)
                self.fails(InvalidDay, lambda: Entry(7, value, value, value), value)
                self.fails(InvalidDay, lambda: Entry(7, 0, value, MERGE), value)
                self.fails(InvalidDay, lambda: Entry(7, 0, value, value), value)
            self.fails(InvalidDeed, lambda: Entry(7, 3, 5, value), 0)
        for number in (0, 1000, -1):
            self.fails(InvalidNumber, lambda: Entry(number, 3, 5, MERGE), number)
        for day in (-1, 10000):
            self.fails(InvalidDay, lambda: Entry(7, day, day, MERGE), day)
            self.fails(InvalidDay, lambda: Entry(7, 0, day, MERGE), day)
        self.fails(InvalidDay, lambda: Entry(7, 5, 4, MERGE), 4)
        self.fails(InvalidDay, lambda: Entry(7, 9999, 0, None), 0)
        self.same([Entry(1, 0, 0, MERGE).entered, Entry(999, 9999, 9999, MERGE).done], [0, 9999])

    def test_deeds_that_are_wrong(self):
        for deed in good_deeds():
            self.fails(InvalidDeed, lambda: Entry(7, 3, 5, list(deed)), 0)
            self.fails(InvalidDeed, lambda: Entry(7, 3, 5, deed[:-1]), 0)
            self.fails(InvalidDeed, lambda: Entry(7, 3, 5, deed + (1,)), 0)
        for deed in (("void", 0), ("void", 1000), ("instead", 5, ("strike", 1)), ("instead", 9, ("instead", 8, MERGE))):
            self.fails(InvalidDeed, lambda: Entry(7, 3, 5, deed), 0)

    def test_numbers_in_deeds(self):
        for word in ("void", "uphold", "strike"):
            for number in (1, 5, 998):
                self.same(Entry(number + 1, 3, 5, (word, number)).deed, (word, number))
                self.fails(InvalidNumber, lambda: Entry(number, 3, 5, (word, number)), number)
            self.fails(InvalidNumber, lambda: Entry(1, 3, 5, (word, 999)), 999)
        self.same(Entry(8, 3, 5, ("instead", 7, MERGE)).deed, ("instead", 7, MERGE))
        self.fails(InvalidNumber, lambda: Entry(7, 3, 5, ("instead", 7, MERGE)), 7)
        for word in ("void", "uphold"):
            self.same(Entry(8, 3, 5, ("instead", 7, (word, 6))).deed, ("instead", 7, (word, 6)))
            self.fails(InvalidNumber, lambda: Entry(8, 3, 5, ("instead", 7, (word, 7))), 7)
            self.fails(InvalidNumber, lambda: Entry(9, 3, 5, ("instead", 7, (word, 8))), 8)
            # The first number from the outside.
            self.fails(InvalidNumber, lambda: Entry(7, 3, 5, ("instead", 8, (word, 9))), 8)
            self.fails(InvalidNumber, lambda: Entry(7, 3, 5, ("instead", 8, (word, 1))), 8)
        # Other numbers in deeds have no such bound.
        self.same(Entry(1, 3, 5, ("repay", "one", 500)).deed, ("repay", "one", 500))
        self.same(Entry(1, 0, 0, ("reserve", "two", 500, ("a",), 900, ("ann",), False)).number, 1)

    def test_errors_in_their_order(self):
        wrong = ("void", 9)
        self.fails(InvalidNumber, lambda: Entry(0, -1, -2, None), 0)
        self.fails(InvalidDay, lambda: Entry(7, -1, -2, None), -1)
        self.fails(InvalidDay, lambda: Entry(7, 3, 2, None), 2)
        self.fails(InvalidDay, lambda: Entry(7, 3, 2, wrong), 2)
        self.fails(InvalidDeed, lambda: Entry(7, 3, 3, None), 0)
        self.fails(InvalidNumber, lambda: Entry(7, 3, 3, wrong), 9)


class Texts(Case):
    def test_there_and_back(self):
        for deed in good_deeds():
            for number, done, entered in ((999, 0, 0), (999, 5, 9999), (999, 9999, 9999)):
                if deed[0] == "instead" and deed[1] == 999:
                    self.assertIsNone(read_entry(f"{number} {done} {entered} {deed_text(deed)}"))
                    continue
                entry = Entry(number, done, entered, deed)
                text = f"{number} {done} {entered} {deed_text(deed)}"
                self.same([str(entry), entry_text(entry)], [text, text])
                found = read_entry(text=text)
                self.assertIs(found.__class__, Entry)
                self.assertTrue(found == entry)
                self.same(found.deed, deed)

    def test_texts_that_are_wrong(self):
        for text in ("", " ", "7", "7 30", "7 30 32", "7 30 32 ", "7 30 merge one", "0 30 32 merge one",
                     "1000 30 32 merge one", "07 30 32 merge one", "7 030 32 merge one", "7 30 032 merge one",
                     "-7 30 32 merge one", "+7 30 32 merge one", "x 30 32 merge one", "7 x 32 merge one",
                     "7 30 x merge one", "7 30 29 merge one", "7 30 10000 merge one", "7 10000 10000 merge one",
                     "7 -1 32 merge one", " 7 30 32 merge one", "7  30 32 merge one", "7 30 32  merge one",
                     "7 30 32 merge one ", "7 30 32 merge one\n", "7 30 32 merge", "7 30 32 merge One", "7 30 32 void 7",
                     "7 30 32 void 8", "7 30 32 strike 7", "7 30 32 instead 7 merge one", "7 30 32 instead 6 void 6",
                     "7 30 32 7 merge one", "merge one", "7 30 32 void 06", "7,30,32 merge one", "7.0 30 32 merge one",
                     "7 30 32\nmerge one", "9" * 5000 + " 30 32 merge one", "7 30 32 " + "instead 5 " * 1000 + "void 1"):
            self.assertIsNone(read_entry(text), text)

    def test_bent_texts(self):
        text = "7 30 32 instead 6 void 5"
        read = 0
        for at in range(len(text) + 1):
            for sign in ("", *"0159 an.\n"):
                for behind in (at, at + 1):
                    other = text[:at] + sign + text[behind:]
                    found = read_entry(other)
                    if found is not None:
                        read += 1
                        self.same(str(found), other)
        self.assertGreater(read, 20)

    def test_values_that_are_no_texts(self):
        for value in any_values() + [Entry(7, 30, 32, MERGE), (7, 30, 32, MERGE)]:
            self.assertIsNone(read_entry(value))


if __name__ == "__main__":
    unittest.main()
