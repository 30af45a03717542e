"""The texts of rank lists: [19]."""

import random
import unittest

from deedranks.claims import Claim
from deedranks.errors import InvalidText
from deedranks.ranks import RankList
from deedranks.ranktexts import ranks_text, read_ranks
from support import Case, any_values

LETTERS = "abcdefghijklmnopqrstuvwxyz"
LINES = "".join([f"claim {letter} ann 5 p\n" for letter in LETTERS[:24]])


class Texts(Case):
    def wrong(self, text, line, why):
        self.fails(InvalidText, lambda: read_ranks(text), line, why)
        self.fails(InvalidText, lambda: read_ranks(text=text), line, why)

    def test_a_text(self):
        ranks = RankList(Claim("one", "ann", 100, ("a", "b")), Claim.held("two", 10 ** 12 - 1, ("c",)))
        text = "claim one ann 100 a b\nreserved two 999999999999 c\n"
        self.same([ranks_text(ranks), ranks_text(ranks=ranks)], [text, text])
        self.assertEqual(read_ranks(text), ranks)
        self.same(ranks_text(RankList()), "")
        self.assertEqual(read_ranks(""), RankList())

    def test_words_of_the_form_may_be_names(self):
        text = "claim claim claim 1 claim\nreserved a 1 b\n"
        self.assertEqual(ranks_text(read_ranks(text)), text)

    def test_back_and_forth(self):
        chance = random.Random(31)
        for _ in range(50):
            claims = []
            for name in chance.sample(LETTERS, chance.randrange(25)):
                lot = tuple(sorted(chance.sample(LETTERS, chance.randrange(1, 13))))
                owner = chance.choice([None, "ann", "zz"])
                claims.append(Claim(name, owner, chance.choice([1, 9, 10 ** 12 - 1, 70]), lot))
            ranks = RankList(*claims)
            self.assertEqual(read_ranks(ranks_text(ranks)), ranks)
            self.assertEqual(ranks_text(read_ranks(ranks_text(ranks))), ranks_text(ranks))

    def test_amounts(self):
        self.assertEqual(read_ranks("claim a b 999999999999 c\n")[1].amount, 10 ** 12 - 1)
        for amount in ("1000000000000", "0", "01", "00", "-1", "+1", "1.0", "1_0", "", "one", "0000000000001"):
            self.wrong(f"claim a b {amount} c\n", 0, "form")
            self.wrong(f"reserved a {amount} c\n", 0, "form")
        # A text with a longer amount can be told, but is not read.
        text = ranks_text(RankList(Claim("a", "b", 10 ** 12, ("c",))))
        self.assertEqual(text, "claim a b 1000000000000 c\n")
        self.wrong(text, 0, "form")
        self.assertEqual(ranks_text(RankList(Claim("a", "b", 10 ** 5000, ("c",)))), "claim a b 1" + "0" * 5000 + " c\n")

    def test_form(self):
        for line in ("", " ", "claim", "reserved", "claim a", "claim a b", "claim a b 1", "reserved a", "reserved a 1",
                     "claim a 1 c", "reserved a b 1 c", "claim A b 1 c", "claim a B 1 c", "claim a b 1 C",
                     "reserved A 1 c", "reserved a 1 C", "claim a b 1 c ", " claim a b 1 c", "claim  a b 1 c",
                     "claim a  b 1 c", "claim a b 1  c", "Claim a b 1 c", "held a 1 c", "claim a - 1 c",
                     "claim abcdefg b 1 c", "claim a abcdefg 1 c", "claim a b 1 abcdefg", "claim a b 1 d c",
                     "claim a b 1 c c", "reserved a 1 c c", "reserved a 1 d c", "claim a b 1 c,d", "claim a b c",
                     "claim a b 1 " + " ".join(LETTERS[:13]), "reserved a 1 " + " ".join(LETTERS[:13])):
            self.wrong(line + "\n", 0, "form")
            self.wrong("claim x y 1 z\n" + line + "\nclaim\n", 1, "form")
        self.assertEqual(read_ranks("claim a b 1 " + " ".join(LETTERS[:12]) + "\n")[1].lot, tuple(LETTERS[:12]))
        self.assertEqual(read_ranks("reserved a 1 " + " ".join(LETTERS[:12]) + "\n")[1].lot, tuple(LETTERS[:12]))

    def test_values_that_are_no_texts(self):
        for value in any_values():
            if not isinstance(value, str):
                self.wrong(value, 0, "form")
            elif value != "":
                self.wrong(value, 0, "form")

    def test_line_feeds(self):
        self.wrong("claim a b 1 c", 0, "form")
        self.wrong("\n", 0, "form")
        self.wrong("claim a b 1 c\n\n", 1, "form")
        self.wrong("claim a b 1 c\nclaim d b 1 c", 1, "form")
        self.wrong("claim a b 1 c\nx", 1, "form")
        self.wrong("claim a b 1 c\n ", 1, "form")

    def test_many(self):
        self.assertEqual(len(read_ranks(LINES)), 24)
        self.wrong(LINES + "claim y ann 5 p\n", 24, "many")
        self.wrong(LINES + "claim y ann 5 p\nclaim\n", 24, "many")
        # The first word that applies to the first wrong line.
        self.wrong(LINES + "claim a ann 5 p\n", 24, "many")
        self.wrong(LINES + "claim a ann 0 p\n", 24, "form")
        self.wrong(LINES + "claim y ann 5 p", 24, "form")
        self.wrong(LINES[:-16] + "claim a ann 5 p\nclaim y ann 5 p\nclaim z ann 5 p\n", 23, "double")

    def test_double(self):
        self.wrong("claim a b 1 c\nreserved a 2 d\n", 1, "double")
        self.wrong("claim a b 1 c\nclaim d b 1 c\nclaim d b 1 c\nclaim\n", 2, "double")
        self.wrong("claim a b 1 c\nclaim a b 0 c\nclaim a b 1 c\n", 1, "form")
        self.wrong("claim a b 1 c\nclaim a b 1 c", 1, "form")
        self.wrong("claim a b 1 c\nclaim a b 1 c\nclaim\n", 1, "double")


if __name__ == "__main__":
    unittest.main()
