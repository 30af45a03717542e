"""The texts of deeds: [40]."""

import random
import unittest

from deedranks.deeds import is_deed
from deedranks.deedtexts import deed_text, read_deed
from deedranks.shares import Share
from support import Case, any_values, good_deeds

TEXTS = [
    ("sale a,b ann bob 1/2 good", ("sale", ("a", "b"), "ann", "bob", Share(1, 2), False)),
    ("sale a ann bob 1 knew", ("sale", ("a",), "ann", "bob", Share(1), True)),
    ("gift a ann bob 59/60", ("gift", ("a",), "ann", "bob", Share(59, 60))),
    ("heirs ann bob:1", ("heirs", "ann", (("bob", 1),))),
    ("heirs ann eve:9,dan:1,cyd:9", ("heirs", "ann", (("eve", 9), ("dan", 1), ("cyd", 9)))),
    ("void 1", ("void", 1)), ("uphold 999", ("uphold", 999)),
    ("divide a 0.0 b", ("divide", "a", ((0, 0),), "b")),
    ("divide a 11.10,0.3,2.0 b", ("divide", "a", ((11, 10), (0, 3), (2, 0)), "b")),
    ("unite a b", ("unite", "a", "b")), ("grant a b ann,bob good", ("grant", "a", "b", ("ann", "bob"), False)),
    ("grant b a ann knew", ("grant", "b", "a", ("ann",), True)), ("waive a b", ("waive", "a", "b")),
    ("charge one cyd 100 a,b ann knew", ("charge", "one", "cyd", 100, ("a", "b"), ("ann",), True)),
    ("reserve two 999999999999 a 0 ann,bob good", ("reserve", "two", 10 ** 12 - 1, ("a",), 0, ("ann", "bob"), False)),
    ("fill two ann", ("fill", "two", "ann")), ("repay one 5", ("repay", "one", 5)),
    ("assign one bob", ("assign", "one", "bob")), ("part one 5 two", ("part", "one", 5, "two")),
    ("merge one", ("merge", "one")), ("release one a", ("release", "one", "a")),
    ("extend one a ann good", ("extend", "one", "a", ("ann",), False)), ("yield one two", ("yield", "one", "two")),
    ("trade one two", ("trade", "one", "two")), ("strike 7", ("strike", 7)),
    ("instead 7 gift a ann bob 1", ("instead", 7, ("gift", ("a",), "ann", "bob", Share(1)))),
    ("instead 7 void 6", ("instead", 7, ("void", 6))), ("instead 7 merge one", ("instead", 7, ("merge", "one"))),
]
WRONG = [
    "", " ", "merge", "merge ", "merge  one", " merge one", "merge one ", "Merge one", "merge One", "merge one two",
    "merge one\n", "merge one,two", "merge\tone", "enter one 1", "one", "void", "void 0", "void 1000", "void 01", "void 00",
    "void -1", "void +1", "void 1 2", "void x", "void 1.0", "void 0001", "strike", "strike 0", "strike 07",
    "sale a,b ann bob 1/2", "sale a,b ann bob 1/2 good good", "sale a,b ann bob 1/2 True", "sale a,b ann bob 1/2 Good",
    "sale b,a ann bob 1/2 good", "sale a,a ann bob 1/2 good", "sale a, ann bob 1/2 good", "sale ,a ann bob 1/2 good",
    "sale a,,b ann bob 1/2 good", "sale a, b ann bob 1/2 good", "sale  ann bob 1/2 good", "sale a ann ann 1/2 good",
    "sale a ann bob 2/4 good", "sale a ann bob 1/1 good", "sale a ann bob 0 good", "sale a ann bob 0/1 good",
    "sale a ann bob -1/2 good", "sale a ann bob 3/2 good", "sale a ann bob 2 good", "sale a ann bob 1/61 good",
    "sale a ann bob 01/2 good", "sale a ann bob 1/02 good", "sale a ann bob 1/ good", "sale a ann bob /2 good",
    "sale a ann bob 1/2/3 good", "sale a ann bob 1/0 good", "sale a ann bob 1 /2 good", "gift a ann bob 1 good",
    "gift A ann bob 1", "gift a ann 1", "gift a,b,c,d,e,f,g,h,i,j,k,l,m ann bob 1", "heirs ann", "heirs ann bob",
    "heirs ann bob:0", "heirs ann bob:10", "heirs ann bob:01", "heirs ann bob:1,", "heirs ann ,bob:1", "heirs ann bob:",
    "heirs ann :1", "heirs ann ann:1", "heirs ann bob:1,bob:1", "heirs ann bob:1,bob:2", "heirs ann bob:1:1",
    "heirs ann bob:1, cyd:1", "heirs ann bob:1 cyd:1", "heirs ann Bob:1", "heirs ann p:1,q:1,r:1,s:1,t:1",
    "heirs ann bob;1", "heirs ann bob.1", "divide a b", "divide a 0.0", "divide a 0.0, b", "divide a ,0.0 b",
    "divide a 0.0,0.0 b", "divide a 0.12 b", "divide a 12.0 b", "divide a 00.0 b", "divide a 0.00 b", "divide a 0.01 b",
    "divide a 0,0 b", "divide a 0:0 b", "divide a 0.0.0 b", "divide a 0. b", "divide a .0 b", "divide a . b",
    "divide a 0 b", "divide a -1.0 b", "divide a 0.0 a", "divide a 0.0 0.1 b", "divide a  b", "unite a a", "unite a",
    "unite a b c", "unite a,b", "grant a b ann", "grant a a ann good", "grant a b  good", "grant a b bob,ann good",
    "grant a b ann good knew", "grant a b good", "waive a a", "waive a", "charge one cyd 0 a ann good",
    "charge one cyd 0100 a ann good", "charge one cyd 1000000000000 a ann good", "charge one cyd -1 a ann good",
    "charge one cyd 100 a ann", "charge one 100 a ann good", "charge one - 100 a ann good", "charge one cyd 1 b,a ann good",
    "reserve two 5 a 10000 ann good", "reserve two 5 a 00 ann good", "reserve two 5 a 007 ann good",
    "reserve two 5 a -1 ann good", "reserve two 5 a ann good", "reserve two cyd 5 a 7 ann good", "fill one", "repay one 0",
    "repay one 05", "repay one 1000000000000", "part one 5 one", "part one 5", "part one two", "yield one one",
    "trade one one", "trade one two three", "extend one a good", "extend one a ann", "release one", "release one a b",
    "instead", "instead 7", "instead 7 ", "instead merge one", "instead 0 merge one", "instead 07 merge one",
    "instead 7  merge one", "instead 7 strike 1", "instead 7 instead 6 merge one", "instead 7 merge", "instead 7 one",
    "instead 7 merge one ", "instead 1000 merge one", "instead merge one 7", "instead 7 7 merge one",
]


class Texts(Case):
    def test_each_word(self):
        self.assertEqual({deed[0] for _, deed in TEXTS}, {deed[0] for deed in good_deeds()})
        for text, deed in TEXTS:
            self.same([deed_text(deed), deed_text(deed=deed)], [text, text])
            self.same([read_deed(text), read_deed(text=text)], [deed, deed])

    def test_there_and_back(self):
        for deed in good_deeds():
            self.same(read_deed(deed_text(deed)), deed)
            if deed[0] not in ("strike", "instead"):
                self.same(deed_text(("instead", 7, deed)), "instead 7 " + deed_text(deed))
                self.same(read_deed("instead 7 " + deed_text(deed)), ("instead", 7, deed))
            else:
                self.assertIsNone(read_deed("instead 7 " + deed_text(deed)))

    def test_texts_that_are_wrong(self):
        for text in WRONG:
            self.assertIsNone(read_deed(text), text)

    def test_bent_texts(self):
        """A text with a sign put in, left out or exchanged is either none or the text of another deed."""
        rng = random.Random("bent")
        signs = "abz019 .,:/-\nA"
        read = 0
        for text, deed in TEXTS:
            bent = [text[:at] + text[at + 1:] for at in range(len(text))]
            bent += [text[:at] + sign + text[at:] for at in range(len(text) + 1) for sign in signs]
            bent += [text[:at] + sign + text[at + 1:] for at in range(len(text)) for sign in rng.sample(signs, 6)]
            for other in bent:
                found = read_deed(other)
                if found is not None:
                    read += 1
                    self.assertTrue(is_deed(found), other)
                    self.same(deed_text(found), other)
                    self.assertEqual(found == deed, other == text)
        self.assertGreater(read, 500)

    def test_bent_words(self):
        """A text with a word put in, left out, doubled or exchanged, likewise."""
        for text, deed in TEXTS:
            words = text.split(" ")
            bent = [words[:at] + words[at + 1:] for at in range(len(words))]
            bent += [words[:at] + [word] + words[at:] for at in range(len(words) + 1) for word in ("a", "1", "good", "")]
            bent += [words[:at] + [words[at + 1], words[at]] + words[at + 2:] for at in range(len(words) - 1)]
            for other in bent:
                found = read_deed(" ".join(other))
                if found is not None:
                    self.assertTrue(is_deed(found), other)
                    self.same(deed_text(found), " ".join(other))

    def test_a_text_of_many_insteads(self):
        self.assertIsNone(read_deed("instead 5 " * 1200 + "merge a"))
        self.assertIsNone(read_deed("instead 5 instead 5 merge a"))
        self.assertIsNone(read_deed("instead 5 instead"))

    def test_long_texts(self):
        cells = [(row, column) for row in range(12) for column in range(12)]
        text = "divide a " + ",".join(f"{row}.{column}" for row, column in cells[::-1]) + " b"
        self.same(read_deed(text), ("divide", "a", tuple(cells[::-1]), "b"))
        self.same(deed_text(read_deed(text)), text)
        self.assertIsNone(read_deed("void " + "9" * 5000))
        self.assertIsNone(read_deed("gift a b c 1/" + "9" * 5000))
        self.assertIsNone(read_deed("gift " + "a," * 5000 + "a b c 1"))

    def test_values_that_are_no_texts(self):
        for value in any_values() + [("merge", "one"), ["merge one"], ("merge one",)]:
            self.assertIsNone(read_deed(value))
        for deed in good_deeds():
            self.assertIsNone(read_deed(deed))


if __name__ == "__main__":
    unittest.main()
