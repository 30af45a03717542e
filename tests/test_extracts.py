"""The texts of rolls and extracts: [48]."""

import unittest

from deedranks.errors import UnknownParcel
from deedranks.extracts import extract, roll_text
from deedranks.plats import Plat
from deedranks.plattexts import plat_text
from deedranks.ranktexts import ranks_text
from deedranks.rolls import Roll
from deedranks.shares import Share
from support import Case, any_values

PLAT = Plat([["a", "a", "b"], ["a", "a", "b"], ["c", "c", "c"]], road=[(0, 0), (2, 2)])
OWNERS = {"a": "ann", "b": "ann", "c": "bob"}


def roll_of(*deeds):
    roll = Roll(PLAT, OWNERS)
    for at, deed in enumerate(deeds):
        roll.do(at + 1, deed)
    return roll


def text_of(*lines):
    return "".join(f"{line}\n" for line in lines)


def full_roll():
    roll = roll_of(
        ("gift", ("a",), "ann", "dan", Share(1, 3)),
        ("charge", "one", "eve", 100, ("a", "b"), ("ann", "dan"), False),
        ("reserve", "held", 7, ("b",), 50, ("ann",), False),
        ("grant", "a", "c", ("bob",), False),
        ("grant", "c", "a", ("ann", "dan"), False),
        ("grant", "b", "c", ("bob",), False),
        ("void", 6),
        ("charge", "two", "fay", 10 ** 12 - 1, ("c",), ("bob",), False),
        ("charge", "gone", "fay", 5, ("c",), ("bob",), False),
        ("void", 9),
        ("divide", "a", ((0, 1), (1, 1)), "d"),
    )
    roll.turn_to(30)
    return roll


class Texts(Case):
    def test_at_first(self):
        roll = Roll(PLAT, OWNERS)
        self.same(roll_text(roll), text_of("day 0", "row a* a b", "row a a b", "row c c c*", "owner a ann 1",
                                           "owner b ann 1", "owner c bob 1"))
        self.same(extract(roll, "c"), text_of("parcel c 3", "owner bob 1"))

    def test_a_full_roll(self):
        roll = full_roll()
        self.same(roll_text(roll), text_of(
            "day 30", "row a* d b", "row a d b", "row c c c*", "owner a ann 2/3", "owner a dan 1/3", "owner b ann 1",
            "owner c bob 1", "owner d ann 2/3", "owner d dan 1/3", "step a c", "step c a", "step c d", "step d c",
            "claim one eve 100 a b d", "reserved held 7 b", "claim two fay 999999999999 c"))
        self.same(roll_text(roll=roll), roll_text(roll))

    def test_its_parts(self):
        roll = full_roll()
        text = roll_text(roll)
        self.assertTrue(text.endswith(ranks_text(roll.ranks())))
        rows = [line[4:] + "\n" for line in text.split("\n") if line.startswith("row ")]
        self.same("".join(rows), plat_text(roll.plat))

    def test_extracts(self):
        roll = full_roll()
        self.same(extract(roll, "a"), text_of("parcel a 2", "owner ann 2/3", "owner dan 1/3", "rank 1 one eve 100",
                                              "passage c"))
        self.same(extract(roll, "b"), text_of("parcel b 2", "owner ann 1", "rank 1 one eve 100", "rank 2 held - 7"))
        self.same(extract(parcel="c", roll=roll), text_of("parcel c 3", "owner bob 1", "rank 3 two fay 999999999999",
                                                          "passage a", "passage d"))
        self.same(extract(roll, "d"), text_of("parcel d 2", "owner ann 2/3", "owner dan 1/3", "rank 1 one eve 100",
                                              "passage c"))

    def test_ranks_are_those_of_the_rank_list(self):
        roll = roll_of(("charge", "one", "eve", 1, ("a",), ("ann",), False),
                       ("charge", "two", "eve", 2, ("a", "b"), ("ann",), False), ("void", 1))
        self.same(extract(roll, "b"), text_of("parcel b 2", "owner ann 1", "rank 1 two eve 2"))
        self.same(roll_text(roll).split("\n")[-2], "claim two eve 2 a b")

    def test_parcels_that_are_not_there(self):
        roll = full_roll()
        for value in any_values() + ["z", "ann", "one"]:
            self.fails(UnknownParcel, lambda: extract(roll, value), value)
        self.fails(UnknownParcel, lambda: extract(Roll(PLAT, OWNERS), "d"), "d")

    def test_great_amounts(self):
        roll = roll_of(("charge", "one", "eve", 10 ** 12 - 1, ("a",), ("ann",), False))
        roll.do(2, ("part", "one", 1, "rest"))
        self.same(extract(roll, "a").split("\n")[2:4], ["rank 1 one eve 1", "rank 2 rest eve 999999999998"])

    def test_the_roll_stays(self):
        roll = full_roll()
        before = roll_text(roll)
        extract(roll, "a")
        self.same([roll_text(roll), roll_text(roll.twin())], [before, before])


if __name__ == "__main__":
    unittest.main()
