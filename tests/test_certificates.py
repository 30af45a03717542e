"""The texts of certificates: [49]."""

import unittest

from deedranks.certificates import certificate_text, judged_text, read_certificate
from deedranks.claims import Claim
from deedranks.errors import InvalidText
from deedranks.papers import certificate, judged
from deedranks.ranks import RankList
from deedranks.ranktexts import ranks_text
from support import Case, any_values, random_cases

RANKS = RankList(Claim("one", "eve", 3, ("a", "b")), Claim("held", None, 9, ("a", "d")), Claim("two", "bob", 4, ("b",)),
                 Claim("three", "eve", 5, ("a", "c")))
PRICES = {"c": 1, "b": 5, "a": 2, "z": 7}
PLAN = {("one", "a"): 2, ("one", "b"): 1, ("three", "c"): 1, ("two", "b"): 4}
CUTS = [[], [], ["one", "two", "three"]]
CLAIMS = ["claim one eve 3 a b", "reserved held 9 a d", "claim two bob 4 b", "claim three eve 5 a c"]
PRICED = ["price a 2", "price b 5", "price c 1"]
PAID = ["pay one a 2", "pay one b 1", "pay three c 1", "pay two b 4"]
CUT = ["cut one", "cut two", "cut three one two three"]
LINES = CLAIMS + PRICED + PAID + CUT


def text_of(lines):
    return "".join(f"{line}\n" for line in lines)


class Texts(Case):
    def test_one(self):
        self.same(certificate_text(RANKS, PRICES), text_of(LINES))
        self.same(certificate_text(prices=PRICES, ranks=RANKS), text_of(LINES))

    def test_parcels_without_a_price_and_those_of_no_demand(self):
        self.same(certificate_text(RANKS, {"d": 4, "b": 0}),
                  text_of(CLAIMS + ["price a 0", "price b 0", "price c 0", "cut one one", "cut two one two",
                                    "cut three one two three"]))

    def test_no_claims(self):
        self.same([certificate_text(RankList(), PRICES), certificate_text(RankList(), {})], ["", ""])
        held = RankList(Claim("held", None, 9, ("a",)))
        self.same(certificate_text(held, {"a": 9}), "reserved held 9 a\n")

    def test_prices_that_are_wrong(self):
        self.fails_by_prices(lambda prices: certificate_text(RANKS, prices))
        self.fails_by_prices(lambda prices: certificate_text(RankList(), prices))

    def test_great_numbers(self):
        ranks = RankList(Claim("one", "ann", 10 ** 5000, ("a",)))
        text = certificate_text(ranks, {"a": 10 ** 5000 - 1})
        self.same(text, text_of(["claim one ann 1" + "0" * 5000 + " a", "price a " + "9" * 5000,
                                 "pay one a " + "9" * 5000, "cut one one"]))
        self.fails(InvalidText, lambda: read_certificate(text), 0, "form")

    def test_there_and_back(self):
        for rng, ranks, prices in random_cases("certificates", 200):
            text = certificate_text(ranks, prices)
            plan, cuts = certificate(ranks, prices)
            named = sorted({parcel for _, _, lot in ranks.demands() for parcel in lot})
            found = read_certificate(text)
            self.same(found, (ranks, {parcel: prices.get(parcel, 0) for parcel in named}, plan, cuts))
            self.same(judged_text(text), ("right", ""))
            lines = text.split("\n")[:-1]
            self.same(lines[:len(ranks)], ranks_text(ranks).split("\n")[:-1])
            # Price lines may be in any order among themselves, pay lines too.
            kinds = [[line for line in lines if line.startswith(word)] for word in ("price", "pay", "cut")]
            for kind in kinds[:2]:
                rng.shuffle(kind)
            self.same(read_certificate(text_of(lines[:len(ranks)] + kinds[0] + kinds[1] + kinds[2])), found)


class Reading(Case):
    def wrong(self, lines, line, why):
        text = lines if isinstance(lines, str) else text_of(lines)
        self.fails(InvalidText, lambda: read_certificate(text), line, why)
        self.fails(InvalidText, lambda: judged_text(text=text), line, why)

    def test_one(self):
        found = read_certificate(text=text_of(LINES))
        self.same(found, (RANKS, {"a": 2, "b": 5, "c": 1}, PLAN, CUTS))
        self.same([list(found[1]), list(found[2])], [["a", "b", "c"], sorted(PLAN)])
        turned = read_certificate(text_of(CLAIMS + PRICED[::-1] + PAID[::-1] + CUT))
        self.same(turned, found)

    def test_lines_that_may_be_left_out(self):
        self.same(read_certificate(text_of(CLAIMS + CUT)), (RANKS, {}, {}, CUTS))
        self.same(read_certificate(text_of(CLAIMS + PAID + CUT)), (RANKS, {}, PLAN, CUTS))
        self.same(read_certificate(text_of(CLAIMS + PRICED[1:2] + CUT)), (RANKS, {"b": 5}, {}, CUTS))
        self.same([read_certificate(""), judged_text("")], [(RankList(), {}, {}, []), ("right", "")])
        self.same(read_certificate("price a 5\n"), (RankList(), {"a": 5}, {}, []))
        self.same(read_certificate("reserved held 9 a\n")[0], RankList(Claim("held", None, 9, ("a",))))

    def test_lines_that_need_not_be_true(self):
        # What the lines say is for the judge, not for the reader.
        self.same(judged_text(text_of(CLAIMS + PRICED + ["pay one a 3"] + PAID[1:] + CUT)), ("plan", ""))
        self.same(judged_text(text_of(CLAIMS + PRICED + ["pay zz a 1"] + CUT)), ("plan", ""))
        self.same(judged_text(text_of(CLAIMS + PRICED + ["pay held a 1"] + CUT)), ("plan", ""))
        self.same(judged_text(text_of(CLAIMS + PRICED + ["pay one zz 1"] + CUT)), ("plan", ""))
        self.same(judged_text(text_of(CLAIMS + PAID + CUT)), ("plan", ""))
        self.same(judged_text(text_of(CLAIMS + PRICED + CUT)), ("sum", "one"))
        for cut, found in (("cut two two", ("sum", "two")), ("cut two three", ("cut", "two")),
                           ("cut two two one", ("cut", "two")), ("cut two one one", ("cut", "two")),
                           ("cut two zz", ("cut", "two")), ("cut two held", ("cut", "two")),
                           ("cut two one two", ("right", ""))):
            self.same(judged_text(text_of(CLAIMS + PRICED + PAID + ["cut one", cut, CUT[2]])), found)
        cut = "cut one " + " ".join(["one"] * 30)
        self.same(read_certificate(text_of([CLAIMS[0], cut]))[3], [["one"] * 30])

    def test_judged_as_its_parts(self):
        seen = set()
        for rng, ranks, prices in random_cases("bent", 300):
            lines = certificate_text(ranks, prices).split("\n")[:-1]
            if len(lines) == len(ranks):
                continue
            at = rng.randrange(len(ranks), len(lines))
            words = lines[at].split(" ")
            if words[0] == "cut":
                names = [name for name in ranks.names() if rng.random() < 0.4]
                lines[at] = " ".join(words[:2] + names)
            elif rng.random() < 0.5:
                del lines[at]
            else:
                lines[at] = " ".join(words[:-1] + [str(int(words[-1]) + 1)])
            text = text_of(lines)
            self.same(judged_text(text), judged(*read_certificate(text)))
            seen.add(judged_text(text)[0])
        self.assertEqual(seen, {"plan", "cut", "sum", "right"})

    def test_form(self):
        for line in ("", " ", "claim", "price", "price a", "price a 1 ", "price a b 1", "price A 1", "price a x",
                     "price a -1", "price a 01", "price a 00", "price a 1.0", "price  a 1", " price a 1", "Price a 1",
                     "pay", "pay one", "pay one 1", "pay one a", "pay one a 0", "pay one a -1", "pay one a 01",
                     "pay one a b 1", "pay One a 1", "pay one A 1", "pay one a 1 ", "pay  one a 1", "pay one a  1",
                     "cut", "cut ", "cut One", "cut one A", "cut one ", "cut one  two", "cut  one", " cut one",
                     "cut one 1", "cut one,two", "cuts one", "sum one 3", "price abcdefg 1", "pay abcdefg a 1",
                     "pay one abcdefg 1", "cut abcdefg", "cut one abcdefg", "pay one a 1_0", "price a +1",
                     "claim one ann 0 a", "claim one ann 5 b a", "reserved one 05 a", "price a 5\t"):
            self.wrong([line], 0, "form")
            self.wrong(LINES + [line], len(LINES), "form")
            self.wrong(CLAIMS[:1] + [line, "", "cut"], 1, "form")

    def test_kinds_in_another_order(self):
        kinds = [CLAIMS, PRICED, PAID, CUT]
        for later in range(1, 4):
            for earlier in range(later):
                ahead = CLAIMS + kinds[later][:1]
                if earlier == 0:
                    self.wrong(ahead + ["claim new ann 1 a"], 5, "form")
                    # Form comes ahead of double and many.
                    self.wrong(ahead + CLAIMS[:1], 5, "form")
                else:
                    self.wrong(ahead + kinds[earlier][:1], 5, "form")
        many = [f"claim {letter} ann 5 p" for letter in "abcdefghijklmnopqrstuvwx"]
        self.wrong(many + ["price a 1", "claim y ann 5 p"], 25, "form")
        self.wrong(["price a 1", "pay x a 1", "price a 1"], 2, "form")

    def test_numbers_of_12_and_of_13_digits(self):
        great = "9" * 12
        found = read_certificate(text_of([f"claim one ann {great} a", f"price a {great}", f"pay one a {great}",
                                          "cut one"]))
        self.same(found[1:3], ({"a": 10 ** 12 - 1}, {("one", "a"): 10 ** 12 - 1}))
        for line in ("claim one ann 1000000000000 a", "reserved one 1000000000000 a", "price a 1000000000000",
                     "pay one a 1000000000000", "price a 0000000000001"):
            self.wrong([line], 0, "form")
        self.same(read_certificate("price a 0\n")[1], {"a": 0})

    def test_line_feeds(self):
        for many in range(len(LINES)):
            whole = text_of(LINES[:many])
            self.wrong(whole + LINES[many], many, "form")
            self.wrong(whole + "x", many, "form")
        self.wrong(text_of(LINES) + " ", len(LINES), "form")
        self.wrong(text_of(LINES) + "\n", len(LINES), "form")
        self.wrong("\n", 0, "form")

    def test_many(self):
        many = [f"claim {letter} ann 5 p" for letter in "abcdefghijklmnopqrstuvwx"]
        cuts = [f"cut {letter}" for letter in "abcdefghijklmnopqrstuvwx"]
        self.same(len(read_certificate(text_of(many + cuts))[0]), 24)
        self.wrong(many + ["claim y ann 5 p"], 24, "many")
        self.wrong(many + ["reserved a 5 p"], 24, "many")
        self.wrong(many + ["reserved a 0 p"], 24, "form")
        self.wrong(many[:23] + ["claim a ann 5 p", "claim y ann 5 p"], 23, "double")

    def test_many_lines_of_the_other_kinds(self):
        names = [first + second for first in "abcdef" for second in "abcdef"]
        lines = [f"price {name} 1" for name in names] + [f"pay x {name} 1" for name in names]
        found = read_certificate(text_of(["claim x y 50 aa"] + lines + ["cut x"]))
        self.same([len(found[1]), len(found[2])], [36, 36])
        self.wrong(["claim x y 50 aa"] + lines + [lines[-1]], 73, "double")

    def test_double(self):
        self.wrong(CLAIMS + ["claim one bob 1 z"], 4, "double")
        self.wrong(CLAIMS + ["reserved two 1 z"] + CUT, 4, "double")
        self.wrong(CLAIMS + PRICED + ["price b 6"], 7, "double")
        self.wrong(CLAIMS + PRICED + ["price z 6", "price y 1", "price z 6"], 9, "double")
        self.wrong(CLAIMS + PRICED + PAID + ["pay one b 3"], 11, "double")
        self.same(read_certificate(text_of(CLAIMS + ["pay one b 3", "pay two b 3", "pay one a 3"] + CUT))[2],
                  {("one", "a"): 3, ("one", "b"): 3, ("two", "b"): 3})
        # A claim, a price and a pay line may have the same names.
        self.same(read_certificate("claim a a 1 a\nprice a 1\npay a a 1\ncut a a\n")[2], {("a", "a"): 1})

    def test_order(self):
        for cuts, at in ((["cut two"], 0), (["cut held"], 0), (["cut zz"], 0), (["cut one", "cut three"], 1),
                         (["cut one", "cut one"], 1), (CUT + ["cut three"], 3), (CUT + ["cut one"], 3),
                         (["cut one", "cut held"], 1), (["cut three", "cut two", "cut one"], 0)):
            self.wrong(LINES[:11] + cuts, 11 + at, "order")
            self.wrong(LINES[:11] + cuts + ["x"], 11 + at, "order")
        self.wrong(["cut one"], 0, "order")
        self.wrong(["reserved one 5 a", "cut one"], 1, "order")

    def test_missing(self):
        for many in range(3):
            self.wrong(LINES[:11] + CUT[:many], 11 + many, "missing")
        self.wrong(CLAIMS, 4, "missing")
        self.wrong(CLAIMS[:1], 1, "missing")
        # Every wrong line comes first.
        self.wrong(text_of(CLAIMS) + "x", 4, "form")
        self.wrong(CLAIMS + ["cut two"], 4, "order")

    def test_each_line_left_out_doubled_or_exchanged(self):
        for at, line in enumerate(LINES):
            less = LINES[:at] + LINES[at + 1:]
            if line.startswith("claim"):
                name = line.split(" ")[1]
                place = [f"cut {name}" in cut[:len(name) + 4] for cut in less].index(True)
                self.wrong(less, place, "order")
            elif line.startswith("cut"):
                self.wrong(less, at if at < len(less) else len(less), "order" if at < len(less) else "missing")
            else:
                read_certificate(text_of(less))
            doubled = LINES[:at + 1] + LINES[at:]
            self.wrong(doubled, at + 1, "order" if line.startswith("cut") else "double")
        turned = LINES[:3] + [LINES[4], LINES[3]] + LINES[5:]
        self.wrong(turned, 4, "form")

    def test_values_that_are_no_texts(self):
        for value in any_values():
            if not isinstance(value, str):
                self.fails(InvalidText, lambda: read_certificate(value), 0, "form")
                self.fails(InvalidText, lambda: judged_text(value), 0, "form")
            elif value != "":
                self.wrong(value, 0, "form")

    def test_what_is_returned_is_new(self):
        text = text_of(LINES)
        found = read_certificate(text)
        found[1].clear()
        found[2].clear()
        found[3][2].clear()
        found[3].clear()
        self.same(read_certificate(text), (RANKS, {"a": 2, "b": 5, "c": 1}, PLAN, CUTS))


if __name__ == "__main__":
    unittest.main()
