"""The lines that a desk answers: [52]."""

import unittest

from deedranks.desk import Desk
from deedranks.foul import foul_pay
from deedranks.leaving import left
from deedranks.plats import Plat
from deedranks.shares import Share
from deedranks.totals import pays, totals
from support import Case

PLAT = Plat([["a", "a", "b"], ["c", "c", "b"]], road=[(0, 0)])
OWNERS = {"a": "ann", "b": "ann", "c": "bob"}
WORDS = ["day", "owners", "way", "ranks", "rank", "total", "foul", "pay", "left", "idle", "undo", "redo"]


def put(number, deed, done=1, entered=1):
    return ("put", number, done, entered, deed)


def charge(name, person, amount, lot, by=("ann",)):
    return ("charge", name, person, amount, lot, by, False)


def full_desk():
    desk = Desk(PLAT, OWNERS)
    desk.do(put(1, charge("one", "eve", 3, ("a", "b"))), put(2, ("reserve", "held", 4, ("b",), 50, ("ann",), False)),
            put(3, charge("two", "eve", 2, ("a",))), put(4, charge("three", "fay", 5, ("a", "b"))),
            put(5, ("gift", ("c",), "bob", "dan", Share(1, 3))), put(6, ("merge", "zz")), put(7, ("unite", "a", "c")),
            put(8, charge("one", "eve", 3, ("a",)), 5, 5), put(9, ("grant", "c", "b", ("ann",), False), 1, 6))
    desk.do(("turn", 5))
    desk.do(("price", "a", 4), ("price", "b", 3), ("price", "zz", 100))
    return desk


class Lines(Case):
    def answers(self, desk, *pairs):
        for line, answer in pairs:
            self.same([desk.twin().say(line), desk.twin()(line), desk.say(line=line), desk(line)], [answer] * 4)

    def test_day(self):
        self.answers(Desk(PLAT, OWNERS), ("day", "0"))
        self.answers(full_desk(), ("day", "5"))

    def test_owners(self):
        self.answers(full_desk(), ("owners a", "ann 1"), ("owners c", "bob 2/3 dan 1/3"), ("owners z", "error UnknownParcel"),
                     ("owners ann", "error UnknownParcel"), ("owners one", "error UnknownParcel"))

    def test_way(self):
        desk = full_desk()
        self.answers(desk, ("way a", "a"), ("way b", "b a"), ("way c", "none"), ("way zz", "error UnknownParcel"))
        # The grant is known from the day 6 on.
        desk.do(("turn", 6))
        self.answers(desk, ("way c", "c b a"))
        self.answers(Desk(Plat([["a"]]), {"a": "ann"}), ("way a", "none"))

    def test_ranks(self):
        desk = full_desk()
        self.answers(desk, ("ranks", "one held two three"), ("rank one", "1"), ("rank held", "2"), ("rank three", "4"),
                     ("rank zz", "error UnknownClaim"), ("rank a", "error UnknownClaim"), ("rank eve", "error UnknownClaim"))
        self.answers(Desk(PLAT, OWNERS), ("ranks", "none"), ("rank one", "error UnknownClaim"))
        desk.do(("turn", 51))
        self.answers(desk, ("ranks", "one two three"), ("rank three", "3"), ("rank held", "error UnknownClaim"))
        # A claim on paper that does not stand is none of them.
        desk.do(put(10, ("void", 1), 51, 51))
        self.answers(desk, ("ranks", "two three"), ("rank one", "error UnknownClaim"), ("total one", "error UnknownClaim"),
                     ("rank two", "1"))

    def test_totals_and_foul_pays(self):
        desk = full_desk()
        self.answers(desk, ("total one", "3"), ("total held", "0"), ("total two", "2"), ("total three", "2"),
                     ("total zz", "error UnknownClaim"), ("foul one", "3"), ("foul two", "1"), ("foul three", "2"),
                     ("foul held", "error Reserved"), ("foul zz", "error UnknownClaim"))
        ranks, prices = desk.office().roll().ranks(), desk.asked_prices()
        for name, total in totals(ranks, prices):
            self.same(desk(f"total {name}"), str(total))
        for name, _, _ in ranks.demands():
            self.same(desk(f"foul {name}"), str(foul_pay(ranks, prices, name)))

    def test_pay(self):
        desk = full_desk()
        self.answers(desk, ("pay eve", "5"), ("pay fay", "2"), ("pay ann", "0"), ("pay zz", "0"), ("pay one", "0"))
        self.same(pays(desk.office().roll().ranks(), desk.asked_prices()), {"eve": 5, "fay": 2})
        self.answers(Desk(PLAT, OWNERS), ("pay eve", "0"))

    def test_left(self):
        desk = full_desk()
        self.answers(desk, ("left a", "0 0"), ("left c", "0 0"), ("left z", "error UnknownParcel"),
                     ("left zz", "error UnknownParcel"), ("left ann", "error UnknownParcel"))
        desk.do(("price", "a", 8), ("price", "b", 6), ("price", "c", 7))
        self.answers(desk, ("left a", "0 4"), ("left b", "0 4"), ("left c", "7 7"))
        ranks, prices = desk.office().roll().ranks(), desk.asked_prices()
        self.same([left(ranks, prices, ["a"]), left(ranks, prices, ["b"])], [(0, 4), (0, 4)])

    def test_idle(self):
        desk = full_desk()
        self.answers(desk, ("idle", "6 UnknownClaim 7 UnlikeLines 8 DuplicateName"))
        self.answers(Desk(PLAT, OWNERS), ("idle", "none"))

    def test_undo_and_redo(self):
        desk = Desk(PLAT, OWNERS)
        desk.do(("turn", 3))
        desk.do(("turn", 8))
        expected = [("day", "8"), ("undo", "done"), ("day", "3"), ("undo", "done"), ("day", "0"),
                    ("undo", "error NothingLeft"), ("day", "0"), ("redo", "done"), ("day", "3"), ("redo", "done"),
                    ("redo", "error NothingLeft"), ("day", "8"), ("nothing", "unknown"), ("undo", "done")]
        self.same([desk.say(line) for line, _ in expected], [answer for _, answer in expected])
        # All lines are in the log, and stay there whatever is taken back.
        self.same(desk.log(), expected)
        self.same(desk.history(), (1, 1))

    def test_lines_that_are_unknown(self):
        desk = full_desk()
        before = desk.history()
        lines = ["", " ", "\n", "Day", "day ", " day", "day\n", "\nday", "day day", "day 5", "days", "undo ", " redo", "undo 1",
                 "redo\n", "undo redo", "ranks ", "ranks one", "idle ", "idle 6", "put 1 1 1 merge one", "turn 9", "price a 1",
                 "done", "unknown", "error", "none", "extract a", "owner a", "log", "history", "0", "*"]
        for word in ("owners", "way", "rank", "total", "foul", "pay", "left"):
            lines += [word, word + " ", word + "  a", word + " a ", " " + word + " a", word + " A", word + " Ann",
                      word + " a\n", word + "\na", word + " abcdefg", word + " a1", word + " 1", word + " -", word + " a b",
                      word + " a,b", word.upper() + " a", word + "a", word + " *", word + " a*"]
        for line in lines:
            self.answers(desk, (line, "unknown"))
        self.same([desk.history(), desk("day")], [before, "5"])

    def test_each_word_is_known(self):
        desk = full_desk()
        for word in WORDS:
            line = word if word in ("day", "ranks", "idle", "undo", "redo") else word + " zz"
            self.assertNotEqual(desk(line), "unknown")

    def test_the_log(self):
        desk = full_desk()
        self.same(desk.log(), [])
        desk("day")
        desk.say("rank zz")
        desk("")
        desk("day")
        self.same(desk.log(), [("day", "5"), ("rank zz", "error UnknownClaim"), ("", "unknown"), ("day", "5")])
        desk.undo()
        desk.do(("turn", 9))
        self.same(len(desk.log()), 4)

    def test_answers_change_with_the_prices(self):
        desk = full_desk()
        desk.do(("price", "a", 0))
        self.answers(desk, ("total one", "3"), ("total two", "0"), ("pay eve", "3"))
        desk.undo()
        self.answers(desk, ("pay eve", "5"))

    def test_great_prices(self):
        desk = full_desk()
        desk.do(("price", "c", 10 ** 5000))
        self.answers(desk, ("left c", "1" + "0" * 5000 + " 1" + "0" * 5000))


if __name__ == "__main__":
    unittest.main()
