"""Words and signs: [34]."""

import itertools
import unittest

from deedranks.claims import Claim
from deedranks.errors import Behind, DuplicateName, InsideLot, InvalidAmount, InvalidClaim, InvalidDeed, InvalidName
from deedranks.errors import InvalidNumber, NotReserved, OutsideLot, Reserved, TooMany, Unequal, UnknownClaim, Unlike
from deedranks.rankdeeds import changed
from deedranks.ranks import RankList
from deedranks.signs import signs
from deedranks.totals import pays
from support import Case, any_values, random_changes

# The owners are ann, bob, nobody, cyd, ann and dan.
RANKS = RankList(Claim("one", "ann", 2, ("a", "b")), Claim("two", "bob", 2, ("b",)), Claim("held", None, 2, ("a",)),
                 Claim("four", "cyd", 2, ("c",)), Claim("five", "ann", 3, ("a", "b")), Claim("six", "dan", 2, ("b",)))
APART = RankList(*[claim.with_owner(owner) for claim, owner in zip(RANKS, ["ann", "bob", None, "cyd", "eve", "dan"])])


def told(same="", more="", less="", open=""):
    """The dict of signs of persons, of whom the first letters are told."""
    names = {"a": "ann", "b": "bob", "c": "cyd", "d": "dan", "e": "eve", "f": "fay"}
    rows = [(names[letter], sign) for sign, letters in (("same", same), ("more", more), ("less", less), ("open", open))
            for letter in letters]
    return dict(sorted(rows))


class Words(Case):
    def test_enter(self):
        new = Claim("new", "fay", 1, ("a",))
        self.same([signs(APART, ("enter", new, 1)), signs(APART, ("enter", new, 4)), signs(APART, ("enter", new, 7))],
                  [told(less="abcde", more="f"), told(same="ab", less="ced", more="f"), told(same="abcde", more="f")])
        self.same(signs(RANKS, ("enter", new.with_owner("cyd"), 1)), told(less="abd", open="c"))
        self.same(signs(RANKS, ("enter", new.with_owner("ann"), 6)), told(same="bc", less="d", more="a"))
        self.same(signs(deed=("enter", new.with_owner(None), 1), ranks=RANKS), told(same="abcd"))
        self.same(signs(RankList(), ("enter", new, 1)), told(more="f"))
        self.same(signs(RankList(), ("enter", new.with_owner(None), 1)), {})

    def test_cancel_and_repay(self):
        for deeds in ([("cancel", name) for name in ("one", "two", "held", "five", "six")],
                      [("repay", name, 1) for name in ("one", "two", "held", "five", "six")],
                      [("repay", name, many) for name, many in (("one", 2), ("two", 2), ("held", 2), ("five", 3),
                                                                ("six", 2))]):
            self.same([signs(APART, deed) for deed in deeds],
                      [told(less="a", more="bced"), told(same="a", less="b", more="ced"), told(same="abcde"),
                       told(same="abc", less="e", more="d"), told(same="abce", less="d")])
            self.same([signs(RANKS, deed) for deed in deeds],
                      [told(open="a", more="bcd"), told(less="b", more="acd"), told(same="abcd"),
                       told(same="bc", less="a", more="d"), told(same="abc", less="d")])

    def test_assign_and_fill(self):
        self.same([signs(APART, ("assign", "two", person)) for person in ("bob", "ann", "dan", "fay")],
                  [told(same="abcde"), told(less="b", more="a", same="cde"), told(less="b", more="d", same="ace"),
                   told(less="b", more="f", same="acde")])
        self.same(signs(RANKS, ("assign", "one", "fay")), told(less="a", more="f", same="bcd"))
        self.same([signs(APART, ("fill", "held", person)) for person in ("fay", "ann", "bob", "cyd", "dan")],
                  [told(same="ab", less="ced", more="f"), told(same="b", less="ced", more="a"),
                   told(same="a", less="ced", more="b"), told(same="ab", less="ed", open="c"),
                   told(same="ab", less="ce", open="d")])
        self.same(signs(RANKS, ("fill", "held", "ann")), told(same="b", less="cd", open="a"))

    def test_part_and_merge(self):
        self.same(signs(RANKS, ("part", "five", 1, "new")), told(same="abcd"))
        self.same(signs(RANKS, ("part", "held", 1, "new")), told(same="abcd"))
        parted = changed(RANKS, ("part", "one", 1, "new"))
        self.same(signs(parted, ("merge", "one")), told(same="abcd"))

    def test_release(self):
        self.same([signs(APART, ("release", "one", "a")), signs(APART, ("release", "two", "b")),
                   signs(APART, ("release", "held", "a")), signs(APART, ("release", "five", "b")),
                   signs(APART, ("release", "six", "b"))],
                  [told(less="a", open="bced"), told(same="a", less="b", more="ced"), told(same="abcde"),
                   told(same="abc", less="e", open="d"), told(same="abce", less="d")])
        self.same([signs(RANKS, ("release", "one", "b")), signs(RANKS, ("release", "two", "b")),
                   signs(RANKS, ("release", "four", "c"))],
                  [told(open="abcd"), told(less="b", more="acd"), told(same="b", less="c", more="ad")])
        # All words of ann are open or less.
        self.same(signs(RankList(Claim("x", "ann", 1, ("a",)), Claim("y", "ann", 1, ("a",))), ("release", "x", "a")),
                  told(open="a"))

    def test_extend(self):
        self.same([signs(APART, ("extend", "one", "z")), signs(APART, ("extend", "four", "a")),
                   signs(APART, ("extend", "held", "z")), signs(APART, ("extend", "six", "a"))],
                  [told(more="a", open="bced"), told(same="ab", more="c", open="ed"), told(same="abcde"),
                   told(same="abce", more="d")])
        self.same(signs(RANKS, ("extend", "one", "z")), told(open="abcd"))

    def test_yield(self):
        self.same([signs(APART, ("yield", "one", "six")), signs(APART, ("yield", "two", "four"))],
                  [told(open="ad", same="bce"), told(open="bc", same="ade")])
        alone = RankList(Claim("x", "ann", 1, ("a",)), Claim("y", "bob", 1, ("b",)), Claim("z", "ann", 1, ("b",)))
        self.same(signs(alone, ("yield", "x", "z")), told(same="ab"))

    def test_trade(self):
        self.same([signs(APART, ("trade", "one", "six")), signs(APART, ("trade", "one", "two")),
                   signs(APART, ("trade", "two", "five"))],
                  [told(less="a", more="d", open="bce"), told(less="a", more="b", same="cde"),
                   told(less="b", more="e", open="c", same="ad")])
        self.same([signs(APART, ("trade", "held", "five")), signs(APART, ("trade", "two", "held"))],
                  [told(more="e", open="c", same="abd"), told(less="b", same="acde")])
        self.same([signs(RANKS, ("trade", "one", "five")), signs(RANKS, ("trade", "four", "six"))],
                  [told(open="abc", same="d"), told(less="c", more="d", open="a", same="b")])

    def test_persons_before_and_behind(self):
        one = RankList(Claim("one", "bob", 2, ("a",)))
        self.same(signs(one, ("cancel", "one")), told(less="b"))
        self.same(signs(one, ("assign", "one", "ann")), told(less="b", more="a"))
        self.same(list(signs(one, ("enter", Claim("two", "ann", 1, ("a",)), 2))), ["ann", "bob"])
        held = RankList(Claim("one", None, 2, ("a",)))
        self.same([signs(held, ("cancel", "one")), signs(held, ("fill", "one", "cyd"))], [{}, told(more="c")])


class Facts(Case):
    def test_no_pay_breaks_its_sign(self):
        seen = set()
        for ranks, deed, after in random_changes("signs", 260):
            found = signs(ranks, deed)
            self.assertEqual(list(found), sorted({*ranks.persons(), *after.persons()}))
            for numbers in itertools.product(range(4), repeat=3):
                prices = dict(zip("pqr", numbers))
                old, new = pays(ranks, prices), pays(after, prices)
                for person, sign in found.items():
                    change = new.get(person, 0) - old.get(person, 0)
                    self.assertTrue(sign == "open" or change == 0 or change > 0 and sign == "more"
                                    or change < 0 and sign == "less", (ranks.claims(), deed, person))
                if deed[0] == "yield":
                    self.assertEqual(sum(old.values()), sum(new.values()))
            seen.add(deed[0])
            seen.update(found.values())
        self.assertEqual(len(seen), 15)


class Wrong(Case):
    def test_deeds_that_are_none(self):
        for value in any_values():
            self.fails(InvalidDeed, lambda: signs(RANKS, value), 0)
            self.fails(InvalidDeed, lambda: signs(RANKS, (value, "one")), 0)
        for deed in (["cancel", "one"], ("cancel",), ("cancel", "one", 1), ("Cancel", "one"), ("sale", "one", 1),
                     "cancel", ("enter", 5), ("merge", "one", "two"), ("same", "one"), ("yield", "one")):
            self.fails(InvalidDeed, lambda: signs(RANKS, deed), 0)

    def test_divide_and_unite(self):
        for deed in (("divide", "a", "new"), ("unite", "a", "b"), ("divide", 5, 5), ("unite", "a", "a"), ("divide",),
                     ("unite", "a", "c"), ("divide", "a", "b"), ("unite", None, None, None)):
            self.fails(InvalidDeed, lambda: signs(RANKS, deed), 0)
            self.fails(InvalidDeed, lambda: signs(RankList(), deed), 0)

    def test_the_other_errors(self):
        new = Claim("new", "fay", 1, ("a",))
        full = RankList(*[Claim(letter, "ann", 2, ("a",)) for letter in "abcdefghijklmnopqrstuvwx"])
        for error, deed, rest in (
                (InvalidClaim, ("enter", 5, 5), [0]), (InvalidNumber, ("enter", new, 8), [8]),
                (DuplicateName, ("enter", Claim("one", "fay", 1, ("a",)), 9), ["one"]),
                (UnknownClaim, ("cancel", "new"), ["new"]), (UnknownClaim, ("repay", [], 5), [[]]),
                (InvalidAmount, ("repay", "one", 3), [3]), (UnknownClaim, ("assign", 5, 5), [5]),
                (Reserved, ("assign", "held", 5), ["held"]), (InvalidName, ("assign", "one", 5), [5]),
                (NotReserved, ("fill", "one", 5), ["one"]), (InvalidName, ("fill", "held", "A"), ["A"]),
                (InvalidAmount, ("part", "one", 2, "new"), [2]), (DuplicateName, ("part", "one", 1, "two"), ["two"]),
                (Unlike, ("merge", "one"), ["one"]), (OutsideLot, ("release", "one", "c"), ["c"]),
                (InsideLot, ("extend", "one", "a"), ["a"]), (InvalidName, ("extend", "one", None), [None]),
                (Behind, ("yield", "two", "one"), ["two", "one"]), (Reserved, ("yield", "held", "six"), ["held"]),
                (Unequal, ("yield", "one", "five"), ["one", "five"]),
                (Behind, ("trade", "one", "one"), ["one", "one"])):
            self.fails(error, lambda: signs(RANKS, deed), *rest)
        self.fails(TooMany, lambda: signs(full, ("enter", new, 1)), 24)

    def test_what_is_returned_is_new(self):
        signs(RANKS, ("cancel", "one")).clear()
        self.same(signs(RANKS, ("cancel", "one")), told(open="a", more="bcd"))


if __name__ == "__main__":
    unittest.main()
