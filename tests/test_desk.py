"""Desks: [51]."""

import random
import unittest

from deedranks.desk import Desk
from deedranks.entries import Entry
from deedranks.errors import DuplicateNumber, InvalidDay, InvalidDeed, InvalidNumber, InvalidOwners, InvalidPrices
from deedranks.errors import NothingLeft, TooMany, Unordered
from deedranks.extracts import roll_text
from deedranks.journals import journal_text
from deedranks.office import Office
from deedranks.plats import Plat
from deedranks.shares import Share
from support import Case, any_values, is_plain_price, wrong_prices

PLAT = Plat([["a", "a", "b"]], road=[(0, 0)])
OWNERS = {"a": "ann", "b": "bob"}
GIFT = ("gift", ("a",), "ann", "dan", Share(1, 2))
CHARGE = ("charge", "one", "cyd", 5, ("a",), ("ann",), False)
MERGE = ("merge", "one")
PUT = ("put", 3, 1, 2, CHARGE)


def desk_of(*actions):
    """A desk behind these actions, each one a step."""
    desk = Desk(PLAT, OWNERS)
    for action in actions:
        desk.do(action)
    return desk


def state(desk):
    office = desk.office()
    return [journal_text(office), office.today, desk.asked_prices(), desk.history(), desk.log(), len(desk), repr(desk),
            desk.busy, roll_text(office.roll())]


class Desks(Case):
    def test_at_first(self):
        desk = Desk(PLAT, OWNERS)
        self.same(state(desk), ["", 0, {}, (0, 0), [], 0, "Desk(0 entries)", False,
                                "day 0\nrow a* a b\nowner a ann 1\nowner b bob 1\n"])
        self.assertTrue(Desk(owners=OWNERS, plat=PLAT) == desk)
        self.assertIsInstance(vars(Desk)["busy"], property)
        self.assertIs(desk.office().__class__, Office)

    def test_owners_that_are_wrong(self):
        for value in any_values():
            if not isinstance(value, dict):
                self.fails(InvalidOwners, lambda: Desk(PLAT, value), None)
            self.fails(InvalidOwners, lambda: Desk(PLAT, {"b": value, "a": "ann"}), "b")
        self.fails(InvalidOwners, lambda: Desk(PLAT, {"c": "ann", "b": 5}), "c")
        self.fails(InvalidOwners, lambda: Desk(PLAT, {"b": "bob"}), "a")

    def test_owners_are_copied(self):
        given = dict(OWNERS)
        desk = Desk(PLAT, given)
        given["a"] = "zz"
        self.same([desk("owners a"), desk.twin()("owners a")], ["ann 1", "ann 1"])
        self.assertTrue(desk.twin() == Desk(PLAT, OWNERS))

    def test_actions(self):
        desk = Desk(PLAT, OWNERS)
        desk.do(PUT)
        self.same([journal_text(desk.office()), len(desk), repr(desk), desk.history()],
                  ["3 1 2 charge one cyd 5 a ann good\n", 1, "Desk(1 entries)", (1, 0)])
        desk.do(("turn", 4))
        self.same([desk.office().today, desk.history()], [4, (2, 0)])
        desk.do(("price", "b", 7))
        desk.do(("price", "a", 0), ("price", "b", 9), ("price", "zz", 3), ("price", "zz", 10 ** 12 - 1))
        self.same([desk.asked_prices(), desk.history()], [{"a": 0, "b": 9, "zz": 10 ** 12 - 1}, (4, 0)])
        desk.do(("turn", 4))
        desk.do(("put", 4, 2, 2, GIFT), ("turn", 5), ("put", 5, 2, 2, MERGE))
        self.same([desk.history(), len(desk), desk.office().today], [(6, 0), 3, 5])
        self.assertTrue(desk.office().entry(4) == Entry(4, 2, 2, GIFT))


class Errors(Case):
    def refused(self, desk, error, actions, *told):
        before = state(desk)
        self.fails(error, lambda: desk.do(*actions), *told)
        self.fails(error, lambda: desk.tried(*actions), *told)
        self.same(state(desk), before)

    def test_values_that_are_no_actions(self):
        desk = desk_of(PUT)
        wrong = [PUT[:4], PUT + (1,), ("put",), ("turn",), ("turn", 1, 2), ("price", "a"), ("price", "a", 1, 1), ("undo",),
                 ("Put", 3, 1, 2, CHARGE), ("", 1), ("price",), list(PUT), ["turn", 1], (("turn", 1),), ("turn ", 1),
                 (["turn"], 1), (None, 1), CHARGE, ("enter", 1), "turn"]
        for value in any_values() + wrong:
            self.refused(desk, InvalidDeed, [value], 0)
            self.refused(desk, InvalidDeed, [("turn", 4), ("price", "a", 1), value], 2)
            # Ahead of everything else.
            self.refused(desk, InvalidDeed, [PUT, ("turn", -1), ("price", "A", -1), value, value], 3)
            self.refused(desk, InvalidDeed, [("turn", value), value, ("turn", 5)], 1)
        self.same([desk.history(), desk.office().today], [(1, 0), 0])

    def test_errors_of_put_in_their_order(self):
        desk = desk_of(PUT)
        for value in any_values():
            whole = isinstance(value, int) and not isinstance(value, bool)
            if not whole or not 1 <= value <= 999:
                self.refused(desk, InvalidNumber, [("put", value, -1, -2, None)], value)
            if not whole or not 0 <= value <= 9999:
                self.refused(desk, InvalidDay, [("put", 3, value, -2, None)], value)
                self.refused(desk, InvalidDay, [("put", 3, 1, value, None)], value)
            self.refused(desk, InvalidDeed, [("put", 3, 1, 2, value)], 0)
        self.refused(desk, InvalidDay, [("put", 3, 5, 4, None)], 4)
        self.refused(desk, InvalidNumber, [("put", 3, 1, 2, ("void", 3))], 3)
        self.refused(desk, DuplicateNumber, [PUT], 3)
        self.refused(desk, Unordered, [("put", 4, 0, 1, MERGE)], 4)
        self.refused(desk, Unordered, [("put", 4, 9, 9, MERGE), ("put", 5, 1, 8, MERGE)], 5)
        self.refused(desk, DuplicateNumber, [("put", 4, 9, 9, MERGE), ("put", 4, 9, 9, GIFT)], 4)
        full = Desk(PLAT, OWNERS)
        full.do(*[("put", number, 1, 1, MERGE) for number in range(1, 41)])
        self.same([len(full), full.history()], [40, (1, 0)])
        self.refused(full, TooMany, [("put", 3, 0, 0, MERGE)], 40)
        self.refused(full, InvalidNumber, [("put", 0, 0, 0, MERGE)], 0)

    def test_errors_of_turn_and_price(self):
        desk = desk_of(("turn", 4))
        for value in any_values() + [10000, 3]:
            if isinstance(value, bool) or not isinstance(value, int) or not 4 <= value <= 9999:
                self.refused(desk, InvalidDay, [("turn", value)], value)
            if not is_plain_price(value):
                self.refused(desk, InvalidPrices, [("price", "a", value)], "a")
            if value != 3:
                self.refused(desk, InvalidPrices, [("price", value, 5)], value)
                self.refused(desk, InvalidPrices, [("price", value, value)], value)
        for prices, _ in wrong_prices():
            if isinstance(prices, dict):
                for parcel, price in prices.items():
                    if parcel != "b" and not (parcel == "a" and is_plain_price(price)):
                        self.refused(desk, InvalidPrices, [("price", parcel, price)], parcel)
        self.refused(desk, InvalidDay, [("turn", 9), ("turn", 8), ("turn", 7)], 8)

    def test_the_first_action_that_fails_counts(self):
        desk = desk_of(PUT)
        self.refused(desk, InvalidDay, [("price", "a", 5), ("turn", -1), ("price", "A", 1), PUT], -1)
        self.refused(desk, InvalidPrices, [("turn", 7), ("price", "A", 1), ("turn", -1), PUT], "A")
        self.refused(desk, DuplicateNumber, [("put", 4, 5, 5, GIFT), PUT, ("turn", -1)], 3)

    def test_all_actions_or_none(self):
        desk = desk_of(PUT, ("turn", 2), ("price", "a", 3))
        desk.undo()
        for wrong, error in ((("turn", 1), InvalidDay), (("price", "a", -1), InvalidPrices), (PUT, DuplicateNumber),
                             (None, InvalidDeed), (("put", 0, 1, 1, GIFT), InvalidNumber)):
            before = state(desk)
            with self.assertRaises(error):
                desk.do(("put", 4, 2, 2, GIFT), ("turn", 5), ("price", "b", 8), wrong)
            self.same([state(desk), desk.busy], [before, False])
        # The step that was taken back can still be done again.
        desk.redo()
        self.same(desk.asked_prices(), {"a": 3})


class Histories(Case):
    def test_undo_and_redo(self):
        desk = Desk(PLAT, OWNERS)
        self.fails(NothingLeft, desk.undo)
        self.fails(NothingLeft, desk.redo)
        steps = [[PUT], [("turn", 4)], [("price", "a", 7), ("price", "b", 1)], [("put", 4, 2, 2, GIFT), ("turn", 6)]]
        states = [state(desk)]
        for step in steps:
            desk.do(*step)
            states.append(state(desk))
        seen = [told[:3] + told[5:] for told in states]

        def looked():
            told = state(desk)
            return told[:3] + told[5:]

        for at in range(3, -1, -1):
            desk.undo()
            self.same([looked(), desk.history()], [seen[at], (at, 4 - at)])
        self.fails(NothingLeft, desk.undo)
        self.same([looked(), desk.history()], [seen[0], (0, 4)])
        for at in range(1, 5):
            desk.redo()
            self.same([looked(), desk.history()], [seen[at], (at, 4 - at)])
        self.fails(NothingLeft, desk.redo)
        self.same(state(desk), states[4])

    def test_another_step(self):
        desk = desk_of(PUT, ("turn", 4), ("price", "a", 7))
        desk.undo()
        desk.undo()
        self.same(desk.history(), (1, 2))
        desk.do(("turn", 2))
        self.same([desk.history(), desk.office().today, desk.asked_prices()], [(2, 0), 2, {}])
        self.fails(NothingLeft, desk.redo)
        desk.undo()
        self.same([desk.history(), desk.office().today], [(1, 1), 0])

    def test_calls_without_actions(self):
        desk = desk_of(PUT, ("turn", 4))
        desk.undo()
        before = state(desk)
        desk.do()
        self.same([state(desk), desk.history()], [before, (1, 1)])
        desk.redo()
        self.same(desk.office().today, 4)
        # Actions that change nothing are a step all the same.
        desk.do(("turn", 4))
        self.same(desk.history(), (3, 0))

    def test_questions_and_trials_are_no_steps(self):
        desk = desk_of(PUT, ("turn", 4))
        desk.undo()
        desk("day")
        desk.tried(("turn", 9))
        with self.assertRaises(InvalidDay):
            desk.do(("turn", -1))
        self.same(desk.history(), (1, 1))

    def test_random_histories(self):
        for seed in range(30):
            rng = random.Random(f"desk {seed}")
            desk, past, future = Desk(PLAT, OWNERS), [], []
            present = (0, (), ())
            number = 0
            for _ in range(40):
                word = rng.choice(["put", "turn", "price", "undo", "redo"])
                day, entries, prices = present
                if word in ("undo", "redo"):
                    ahead, behind = (past, future) if word == "undo" else (future, past)
                    if ahead:
                        getattr(desk, word)()
                        behind.append(present)
                        present = ahead.pop()
                    else:
                        self.fails(NothingLeft, getattr(desk, word))
                    self.same(desk.history(), (len(past), len(future)))
                    continue
                number += 1
                action = {"put": ("put", number, 0, 5, MERGE), "turn": ("turn", day + rng.randint(0, 2)),
                          "price": ("price", rng.choice("ab"), rng.randint(0, 9))}[word]
                desk.do(action)
                past.append(present)
                future.clear()
                if word == "put":
                    present = (day, entries + (number,), prices)
                elif word == "turn":
                    present = (action[1], entries, prices)
                else:
                    present = (day, entries, tuple(sorted({**dict(prices), action[1]: action[2]}.items())))
                office = desk.office()
                self.same([office.today, tuple(entry.number for entry in office.entries()),
                           tuple(desk.asked_prices().items())], list(present))
                self.same(desk.history(), (len(past), len(future)))


class Others(Case):
    def test_tried(self):
        desk = desk_of(PUT, ("turn", 4), ("price", "a", 7))
        desk.undo()
        before = state(desk)
        self.same(desk.tried(), roll_text(desk.office().roll()))
        self.same(desk.tried(), "day 4\nrow a* a b\nowner a ann 1\nowner b bob 1\nclaim one cyd 5 a\n")
        self.same(desk.tried(("turn", 7), ("put", 4, 3, 5, ("repay", "one", 2)), ("price", "a", 8)),
                  "day 7\nrow a* a b\nowner a ann 1\nowner b bob 1\nclaim one cyd 3 a\n")
        self.same(desk.tried(("put", 4, 3, 5, ("repay", "one", 2))), desk.tried())
        self.same(state(desk), before)
        other = desk.twin()
        other.do(("turn", 7), ("put", 4, 3, 5, ("repay", "one", 2)))
        self.same(desk.tried(("turn", 7), ("put", 4, 3, 5, ("repay", "one", 2))), roll_text(other.office().roll()))

    def test_the_office_is_independent(self):
        desk = desk_of(PUT, ("turn", 4))
        before = state(desk)
        office = desk.office()
        office.put(Entry(9, 4, 4, GIFT))
        office.today = 8
        self.same(state(desk), before)
        self.same([len(office), len(desk.office())], [2, 1])
        desk.undo()
        desk.redo()
        self.same(state(desk), before)

    def test_what_is_told_is_new(self):
        desk = desk_of(PUT, ("price", "a", 7))
        desk("day")
        before = state(desk)
        desk.asked_prices().clear()
        desk.log().clear()
        self.same(state(desk), before)

    def test_equal(self):
        desk = desk_of(PUT, ("turn", 4), ("price", "a", 7), ("price", "b", 0))
        other = Desk(PLAT, dict(sorted(OWNERS.items(), reverse=True)))
        other.do(("price", "b", 0), ("turn", 4), ("price", "a", 7), PUT)
        self.assertTrue(desk == other)
        self.assertFalse(desk != other)
        # The history and the log mean nothing here.
        other("day")
        other.do(("turn", 4))
        self.assertTrue(desk == other)
        for action in (("turn", 5), ("price", "a", 8), ("price", "c", 0), ("put", 4, 2, 2, GIFT)):
            third = desk.twin()
            self.assertTrue(third == desk)
            third.do(action)
            self.assertFalse(third == desk)
            third.undo()
            self.assertTrue(third == desk)
        self.assertFalse(Desk(PLAT, OWNERS) == Desk(PLAT, {"a": "ann", "b": "ann"}))
        self.assertFalse(Desk(PLAT, OWNERS) == Desk(Plat([["a", "a", "b"]]), OWNERS))
        self.assertFalse(desk_of(("put", 3, 1, 2, MERGE)) == desk_of(("put", 3, 1, 2, ("merge", "two"))))
        for value in any_values() + [desk.office()]:
            self.assertFalse(desk == value)
            self.assertFalse(value == desk)
        # The entries arrived in another order.
        first, second = ("put", 4, 1, 2, GIFT), ("put", 8, 1, 2, MERGE)
        self.assertTrue(desk_of(first, second) == desk_of(second, first))

    def test_twins_that_are_led_apart(self):
        desk = desk_of(PUT, ("turn", 4), ("price", "a", 7))
        desk.undo()
        desk("day")
        other = desk.twin()
        before = state(desk)
        self.same(state(other), before)
        self.assertIs(other.__class__, Desk)
        other.redo()
        other("undo")
        other.do(("put", 4, 4, 4, GIFT), ("price", "b", 1))
        other("ranks")
        self.same(state(desk), before)
        behind = state(other)
        desk.undo()
        desk.undo()
        desk("redo")
        desk.do(("turn", 9))
        self.same(state(other), behind)
        self.same([other.log()[0], other.log()[-1]], [("day", "4"), ("ranks", "one")])

    def test_a_twin_has_the_history_and_the_log_in_their_order(self):
        desk = desk_of(("turn", 4), ("price", "a", 7), ("turn", 5), ("turn", 6))
        lines = ["undo", "idle", "undo", "day", "undo", "x", "day"]
        for line in lines:
            desk(line)
        other = desk.twin()
        self.same([[line for line, _ in other.log()], other.history()], [lines, (1, 3)])
        seen = []
        for _ in range(3):
            other.redo()
            seen.append((other.office().today, other.asked_prices()))
        self.same(seen, [(4, {"a": 7}), (5, {"a": 7}), (6, {"a": 7})])
        self.same(desk.history(), (1, 3))

    def test_busy_within_a_call(self):
        seen = []
        desk = Desk(PLAT, OWNERS)

        class Watched(str):
            def islower(self):
                seen.append(desk.busy)
                return True

        desk.do(("price", Watched("a"), 5))
        desk.tried(("price", Watched("a"), 5))
        self.assertEqual(set(seen), {True})
        self.assertIs(desk.busy, False)


if __name__ == "__main__":
    unittest.main()
