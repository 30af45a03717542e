"""The texts of journals: [47]."""

import random
import unittest

from deedranks.entries import Entry
from deedranks.errors import InvalidOwners, InvalidText
from deedranks.journals import journal_text, read_journal
from deedranks.office import Office
from deedranks.plats import Plat
from deedranks.shares import Share
from support import Case, any_values, good_deeds

PLAT = Plat([["a", "a", "b"]], road=[(0, 0)])
OWNERS = {"a": "ann", "b": "bob"}
MERGE = ("merge", "one")
LINES = ["1 3 4 gift a ann dan 1/3", "2 5 6 charge one cyd 100 a ann good", "7 0 6 instead 2 merge one",
         "9 9999 9999 strike 7"]
FORTY = [f"{number} 1 1 merge one" for number in range(1, 41)]


def text_of(lines):
    return "".join(f"{line}\n" for line in lines)


def read(text):
    return read_journal(PLAT, OWNERS, text)


class Journals(Case):
    def wrong(self, text, line, why):
        whole = text if isinstance(text, str) else text_of(text)
        self.fails(InvalidText, lambda: read(whole), line, why)
        self.fails(InvalidText, lambda: read_journal(text=whole, owners=OWNERS, plat=PLAT), line, why)

    def test_one(self):
        office = Office(PLAT, OWNERS)
        self.same([journal_text(office), journal_text(office=office)], ["", ""])
        office.put(Entry(2, 5, 6, ("charge", "one", "cyd", 100, ("a",), ("ann",), False)))
        office.put(Entry(1, 3, 4, ("gift", ("a",), "ann", "dan", Share(1, 3))))
        self.same(journal_text(office), text_of(LINES[:2]))

    def test_there_and_back(self):
        office = read(text_of(LINES))
        self.assertIs(office.__class__, Office)
        self.same([len(office), office.today, journal_text(office)], [4, 0, text_of(LINES)])
        self.assertTrue(office.entry(7) == Entry(7, 0, 6, ("instead", 2, MERGE)))
        self.same([office.roll().plat == PLAT, office.roll().titles().first_owner("a")], [True, "ann"])
        deeds = [deed for deed in good_deeds() if deed[0] not in ("void", "uphold", "strike", "instead")]
        rng = random.Random("journals")
        for _ in range(30):
            office = Office(PLAT, OWNERS)
            entered = 0
            entries = []
            for number in sorted(rng.sample(range(1, 1000), rng.randint(0, 40))):
                entered += rng.randint(0, 2)
                entries.append(Entry(number, rng.randint(0, entered), entered, rng.choice(deeds)))
            for entry in rng.sample(entries, len(entries)):
                office.put(entry)
            office.today = 7
            text = journal_text(office)
            self.same(text, text_of([str(entry) for entry in entries]))
            other = read(text)
            self.assertTrue(other.entries() == entries)
            self.same([other.today, journal_text(other)], [0, text])
            # The present day is not in the text.
            self.same(office.today, 7)

    def test_no_entries(self):
        self.same([len(read("")), read("").today], [0, 0])

    def test_form(self):
        for line in ("", " ", "x", "1 1 1", "1 1 1 merge", "01 1 1 merge one", "1 01 1 merge one", "1 2 1 merge one",
                     "1 1 1 merge one ", " 1 1 1 merge one", "0 1 1 merge one", "1000 1 1 merge one", "1 1 1 strike 1",
                     "3 1 1 instead 2 void 2", "1 1 10000 merge one", "1 1 1 enter one", "entry 1 1 1 merge one",
                     "1 1 1 repay one 1000000000000"):
            self.wrong([line], 0, "form")
            self.wrong(LINES + [line], 4, "form")
            self.wrong(LINES[:1] + [line, line], 1, "form")
            # Form comes ahead of many, order and days.
            self.wrong(FORTY + [line], 40, "form")

    def test_line_feeds(self):
        for many, line in enumerate(LINES):
            self.wrong(text_of(LINES[:many]) + line, many, "form")
        self.wrong(text_of(LINES) + "x", 4, "form")
        self.wrong(text_of(LINES) + " ", 4, "form")
        self.wrong(text_of(LINES) + "\n", 4, "form")
        self.wrong("\n", 0, "form")
        self.wrong(text_of(LINES).replace("\n", "\n\n"), 1, "form")

    def test_many(self):
        self.same([len(read(text_of(FORTY))), len(read(text_of(FORTY[:39])))], [40, 39])
        self.wrong(FORTY + ["41 1 1 merge one"], 40, "many")
        self.wrong(FORTY + ["41 1 1 merge one", "x"], 40, "many")
        # Many comes ahead of order and of days.
        self.wrong(FORTY + ["40 1 1 merge one"], 40, "many")
        self.wrong(FORTY + ["41 0 0 merge one"], 40, "many")
        self.wrong(text_of(FORTY) + "41 1 1 merge one", 40, "form")

    def test_order(self):
        for number in (9, 8, 1):
            self.wrong(LINES + [f"{number} 9999 9999 merge one"], 4, "order")
            # Order comes ahead of days.
            self.wrong(LINES + [f"{number} 0 0 merge one"], 4, "order")
        self.wrong([LINES[1], LINES[0], "x"], 1, "order")
        self.wrong(LINES[:2] + LINES[1:], 2, "order")
        self.wrong(["999 1 1 merge one", "999 1 1 merge one"], 1, "order")

    def test_days(self):
        self.wrong(LINES + ["10 0 9998 merge one"], 4, "days")
        self.wrong(["1 0 1 merge one", "2 0 0 merge one", "x"], 1, "days")
        self.wrong(["1 0 5 merge one", "2 0 5 merge one", "3 5 6 merge one", "4 0 5 merge one"], 3, "days")
        # The days on which they were done may be in any order.
        self.same(len(read("1 5 5 merge one\n2 0 5 merge one\n3 4 5 merge one\n")), 3)

    def test_values_that_are_no_texts(self):
        for value in any_values():
            if not isinstance(value, str):
                self.fails(InvalidText, lambda: read(value), 0, "form")
            elif value != "":
                self.wrong(value, 0, "form")

    def test_owners_that_are_wrong(self):
        for value in any_values():
            if not isinstance(value, dict):
                for text in ("", "x", value):
                    self.fails(InvalidOwners, lambda: read_journal(PLAT, value, text), None)
            self.fails(InvalidOwners, lambda: read_journal(PLAT, {"a": value, "b": "bob"}, "x"), "a")
        self.fails(InvalidOwners, lambda: read_journal(PLAT, {"a": "ann"}, None), "b")


if __name__ == "__main__":
    unittest.main()
