"""The whole program: [1], [2]. Arguments stay, what is returned is new, equal calls return equal results."""

import unittest

from deedranks import alike, boxes, cells, certificates, consents, cuts, deeds, deedtexts, demands, entries, extracts
from deedranks import flows, foul, granting, hurts, journals, layers, leaving, listing, orders, owning, papers, plans
from deedranks import plattexts, rankdeeds, ranktexts, signs, totals
from deedranks.boxes import Box
from deedranks.claims import Claim
from deedranks.desk import Desk
from deedranks.entries import Entry
from deedranks.errors import Missing, NothingLeft, RollError
from deedranks.filling import Filling
from deedranks.office import Office
from deedranks.plats import Plat
from deedranks.ranks import RankList
from deedranks.rolls import Roll
from deedranks.sales import FairSale, Sale
from deedranks.shares import Share
from deedranks.titles import Titles
from deedranks.ways import Ways

MERGE = ("merge", "one")
GIFT = ("gift", ("a",), "ann", "dan", Share(1, 2))
CHARGE = ("charge", "one", "cyd", 5, ("a",), ("ann",), False)


def frozen(value):
    """A value with all that it holds, in plain tuples."""
    if isinstance(value, (list, tuple)):
        return (value.__class__.__name__, *map(frozen, value))
    if isinstance(value, dict):
        return ("dict", *[(frozen(key), frozen(value[key])) for key in value])
    if value is None or isinstance(value, (bool, int, str)):
        return (value.__class__.__name__, value)
    return (value.__class__.__name__, frozen(vars(value)))


def spoil(value):
    """Changes each list and dict of a value, and each object that may change."""
    if isinstance(value, (list, tuple)):
        for item in value:
            spoil(item)
    if isinstance(value, dict):
        for item in value.values():
            spoil(item)
    if isinstance(value, (list, dict)):
        value.clear()
    if isinstance(value, Titles):
        value.divide(value.parcels()[0], "spoilt")
    if isinstance(value, Roll):
        value.turn_to(9999)
    if isinstance(value, Office):
        value.today = 9999
    if isinstance(value, Desk):
        value.do(("turn", 9999))
        value.say("spoilt")
    if isinstance(value, Filling) and not value.complete:
        value.come("three")
    if isinstance(value, Sale):
        value.sell("spoilt", 1)


def plat_of():
    return Plat([["a", "a", "b"], ["c", "c", "b"]], road=[(0, 0)])


def owners_of():
    return {"c": "bob", "a": "ann", "b": "ann"}


def ranks_of():
    return RankList(Claim("one", "ann", 2, ("a", "b")), Claim("held", None, 2, ("a",)), Claim("two", "bob", 1, ("a",)),
                    Claim("three", "cyd", 2, ("b",)))


def prices_of():
    return {"b": 1, "a": 2, "z": 5}


def titles_of():
    titles = Titles(owners_of())
    titles.give(1, ("a", "b"), "ann", "dan", Share(1, 3), good=True)
    titles.burden(2, ("a",), ("ann", "dan"))
    titles.void(3, 1)
    return titles


def roll_of():
    roll = Roll(plat_of(), owners_of())
    roll.do(1, CHARGE)
    roll.do(2, ("grant", "c", "a", ("ann",), False))
    roll.do(3, ("reserve", "held", 4, ("b",), 60, ("ann",), False))
    roll.do(4, GIFT, day=5)
    return roll


def office_of():
    office = Office(plat_of(), owners_of())
    for at, deed in enumerate((CHARGE, MERGE, ("grant", "c", "a", ("ann",), False), ("charge", "two", "eve", 3, ("a", "b"),
                                                                                     ("ann",), False))):
        office.put(Entry(at + 3, 1, 2, deed))
    office.today = 5
    return office


def desk_of():
    desk = Desk(plat_of(), owners_of())
    desk.do(("put", 3, 1, 2, CHARGE), ("put", 4, 1, 2, MERGE))
    desk.do(("turn", 5), ("price", "b", 3), ("price", "a", 4))
    desk.do(("turn", 6))
    desk.undo()
    desk("day")
    return desk


def filling_of():
    filling = Filling(ranks_of(), prices_of())
    filling.come("two")
    return filling


def sold(kind):
    sale = kind(ranks_of())
    sale.sell("b", 1)
    return sale


def ways_of():
    return Ways(plat_of(), [("c", "a"), ("b", "a")])


# Calls that change nothing: a function and a maker of its arguments.
CALLS = [
    (cells.check_cells, lambda: [[(1, 1), (0, 0)]]), (cells.hangs_together, lambda: [[(1, 1), (0, 0)]]),
    (cells.beside, lambda: [(0, 0)]), (cells.pieces, lambda: [[(1, 1), (0, 0)]]), (cells.holes, lambda: [[(1, 1), (0, 0)]]),
    (cells.side_count, lambda: [[(1, 1)]]), (cells.corner_counts, lambda: [[(1, 1)]]),
    (lambda rows, road: Plat(rows, road=road), lambda: [[["a", "b"], ["a", "b"]], [(1, 0), (0, 0)]]),
    (lambda plat: [plat.rows(), plat.road(), plat.names(), plat.cells("a"), plat.neighbours("a"), plat.corners("a"),
                   plat.mirrored(), plat.united("a", "b")], lambda: [plat_of()]),
    (lambda plat, part: plat.divided("a", part, "d"), lambda: [plat_of(), [(0, 1)]]),
    (plattexts.plat_text, lambda: [plat_of()]), (plattexts.read_plat, lambda: ["a* b\n"]),
    (Ways, lambda: [plat_of(), [("c", "a"), ("b", "a"), ("c", "a")]]),
    (lambda ways: [ways.steps(), ways.with_steps(("a", "c")), ways.way("c"), ways.gates("c"), ways.reached("c"),
                   ways.bare()], lambda: [ways_of()]),
    (granting.possible_steps, lambda: [plat_of()]), (granting.fewest_steps, lambda: [Ways(plat_of(), [])]),
    (granting.is_answer, lambda: [ways_of(), ([], [])]), (Titles, lambda: [owners_of()]),
    (lambda titles: [titles.parcels(), titles.persons(), titles.owners("a"), titles.stretches("a"),
                     titles.chain("a", Share(0)), titles.twin()], lambda: [titles_of()]),
    (lambda ranks: [ranks.claims(), ranks.names(), ranks.persons(), ranks.owned("ann"), ranks.parcels(), ranks.demands(),
                    ranks.elders("three"), ranks[1], list(ranks)], lambda: [ranks_of()]),
    (rankdeeds.changed, lambda: [ranks_of(), ("trade", "one", "two")]), (ranktexts.ranks_text, lambda: [ranks_of()]),
    (ranktexts.read_ranks, lambda: ["claim one ann 5 a\n"]), (demands.check_demands, lambda: [ranks_of().demands()]),
    (demands.check_prices, lambda: [prices_of()]), (lambda prices: demands.price_row(**prices), lambda: [prices_of()]),
    (plans.is_plan, lambda: [ranks_of().demands(), prices_of(), {("one", "a"): 1}]),
    (plans.plan_sum, lambda: [{("one", "a"): 1}]), (plans.plan_totals, lambda: [ranks_of().demands(), {("one", "a"): 1}]),
    (plans.rests, lambda: [prices_of(), {("one", "a"): 1}]),
    (lambda held, prices, parcels: flows.greatest_plan(held, prices, parcels=parcels),
     lambda: [ranks_of().demands(), prices_of(), ["b", "a", "b"]]),
    (flows.find_moving, lambda: [ranks_of().demands(), prices_of(), {("one", "a"): 1}]),
    (flows.is_moving, lambda: [ranks_of().demands(), prices_of(), {("one", "a"): 1}, ["one", "b"]]),
    (flows.moved, lambda: [ranks_of().demands(), prices_of(), {("one", "a"): 1}, ["one", "b"], 1]),
    (lambda held, prices, parcels: cuts.smallest_cut(held, prices, parcels=parcels),
     lambda: [ranks_of().demands(), prices_of(), ["b", "a", "b"]]),
    (cuts.largest_cut, lambda: [ranks_of().demands(), prices_of()]),
    (cuts.cut_value, lambda: [ranks_of().demands(), prices_of(), ["one", "three"]]),
    (totals.sums, lambda: [ranks_of(), prices_of()]), (totals.totals, lambda: [ranks_of(), prices_of()]),
    (totals.pays, lambda: [ranks_of(), prices_of()]), (totals.right_plan, lambda: [ranks_of(), prices_of()]),
    (totals.is_right, lambda: [ranks_of(), prices_of(), {("one", "a"): 1}]),
    (papers.certificate, lambda: [ranks_of(), prices_of()]),
    (papers.judged, lambda: [ranks_of(), prices_of(), {("one", "a"): 1}, [["one"], [], []]]),
    (foul.foul_plan, lambda: [ranks_of(), prices_of(), "two"]), (leaving.left, lambda: [ranks_of(), prices_of(), ["b", "a"]]),
    (leaving.left_plan, lambda: [ranks_of(), prices_of(), ["z", "b"], 5]), (Filling, lambda: [ranks_of(), prices_of()]),
    (lambda filling: [filling.came(), filling.totals(), filling.plan(), filling.twin()], lambda: [filling_of()]),
    (Box, lambda: [{"b": (0, 1), "a": (1, 2)}]),
    (lambda box: [box.bounds(), box.low(), box.high(), box.holds({"a": 1})], lambda: [Box({"b": (0, 1), "a": (1, 2)})]),
    (boxes.brings, lambda: [ranks_of(), Box({"b": (0, 1), "a": (1, 2)}), "one", 2]),
    (lambda ranks, prices: list(layers.layers(ranks, prices, "a")), lambda: [ranks_of(), prices_of()]),
    (alike.classes, lambda: [ranks_of(), ranks_of()]), (alike.caps, lambda: [ranks_of(), ranks_of()]),
    (lambda first, second: list(alike.price_rows(first, second)), lambda: [ranks_of(), RankList()]),
    (alike.parting, lambda: [ranks_of(), RankList()]), (signs.signs, lambda: [ranks_of(), ("trade", "one", "two")]),
    (hurts.hurt_prices, lambda: [ranks_of(), RankList(), "ann"]), (hurts.hurt_persons, lambda: [ranks_of(), RankList()]),
    (hurts.leaves, lambda: [ranks_of(), ("trade", "one", "two")]), (Sale, lambda: [ranks_of()]),
    (lambda sale: [sale.totals(), sale.owed(), sale.sold(), sale.order(), sale.plan(), sale.twin()], lambda: [sold(Sale)]),
    (lambda sale: [sale.totals(), sale.owed(), sale.sold(), sale.order(), sale.plan(), sale.twin()],
     lambda: [sold(FairSale)]),
    (orders.order_totals, lambda: [ranks_of(), prices_of(), ["b", "a"]]),
    (orders.order_range, lambda: [ranks_of(), prices_of(), "one"]),
    (lambda ranks, prices: list(listing.statement(ranks, prices)), lambda: [ranks_of(), prices_of()]),
    (certificates.certificate_text, lambda: [ranks_of(), prices_of()]),
    (certificates.read_certificate, lambda: ["claim one ann 5 a\nprice a 3\npay one a 3\ncut one one\n"]),
    (deeds.is_deed, lambda: [["gift"]]), (deedtexts.deed_text, lambda: [GIFT]), (deedtexts.read_deed, lambda: ["void 1"]),
    (Entry, lambda: [3, 1, 2, GIFT]), (entries.read_entry, lambda: ["3 1 2 gift a ann bob 1"]),
    (Roll, lambda: [plat_of(), owners_of()]),
    (lambda roll: [roll.titles(), roll.grants(), roll.on_paper(), roll.places(), roll.came_by("one", "a"),
                   roll.last_day("held"), roll.ranks(), roll.ways(), roll.twin()], lambda: [roll_of()]),
    (Office, lambda: [plat_of(), owners_of()]),
    (lambda office: [office.entries(), office.entry(3), office.readings(), office.roll(), office.idle(),
                     list(office.walk()), office.tried(Entry(9, 1, 5, GIFT)), office.twin()], lambda: [office_of()]),
    (journals.journal_text, lambda: [office_of()]),
    (journals.read_journal, lambda: [plat_of(), owners_of(), "3 1 2 merge one\n"]),
    (extracts.roll_text, lambda: [roll_of()]), (extracts.extract, lambda: [roll_of(), "a"]),
    (owning.sole_parcels, lambda: [roll_of(), "ann"]), (owning.sole_left, lambda: [roll_of(), prices_of(), "ann"]),
    (consents.hurt_by, lambda: [office_of(), Entry(9, 1, 5, ("repay", "one", 1))]),
    (Desk, lambda: [plat_of(), owners_of()]),
    (lambda desk: [desk.history(), desk.office(), desk.asked_prices(), desk.tried(("turn", 9)), desk.log(), desk.twin()],
     lambda: [desk_of()]),
]
# Calls that change an object: a maker of it and what is done to it, with good and with wrong arguments in turn.
CHANGES = [
    (titles_of, [lambda it: it.give(5, ("a",), "ann", "bob", Share(1, 2)), lambda it: it.give(5, ("a",), "zz", "bob", Share(1)),
                 lambda it: it.inherit(6, "bob", (("eve", 1),)), lambda it: it.inherit(7, "zz", (("eve", 1),)),
                 lambda it: it.burden(7, ("b", "c"), ("ann", "eve")), lambda it: it.burden(8, ("b", "c"), ("ann",)),
                 lambda it: it.uphold(8, 1), lambda it: it.void(9, 77), lambda it: it.divide("a", "d"),
                 lambda it: it.divide("a", "d"), lambda it: it.unite("a", "d"), lambda it: it.unite("a", "b")]),
    (filling_of, [lambda it: it.come("one"), lambda it: it.come("one"), lambda it: it.come("held"),
                  lambda it: it.come("three")]),
    (lambda: sold(Sale), [lambda it: it.sell("a", 5), lambda it: it.sell("a", 5), lambda it: it.sell("z", -1)]),
    (lambda: sold(FairSale), [lambda it: it.sell("a", 5), lambda it: it.sell("a", 5), lambda it: it.sell("z", -1)]),
    (roll_of, [lambda it: it.do(5, ("part", "one", 2, "rest")), lambda it: it.do(5, ("merge", "one"), day=9),
               lambda it: it.do(6, ("charge", "new", "eve", 5, ("a", "c"), ("ann", "dan"), False), day=9),
               lambda it: it.do(6, ("unite", "a", "b"), day=70), lambda it: it.do(6, ("merge", "one"), day=9),
               lambda it: it.do(7, None, day=70), lambda it: it.turn_to(3), lambda it: it.turn_to(61)]),
    (office_of, [lambda it: it.put(Entry(9, 1, 5, GIFT)), lambda it: it.put(Entry(9, 1, 5, GIFT)), lambda it: it.put(None),
                 lambda it: it.put(Entry(10, 1, 4, GIFT)), lambda it: it.turn_to(4), lambda it: it.turn_to(7),
                 lambda it: it.tried(Entry(2, 1, 5, GIFT)), lambda it: it.roll(day=-1)]),
    (desk_of, [lambda it: it.do(("turn", 7), ("price", "b", -1)), lambda it: it.redo(), lambda it: it.redo(),
               lambda it: it.do(("put", 9, 5, 5, GIFT), ("turn", 7)), lambda it: it.do(("put", 9, 5, 5, GIFT)),
               lambda it: it.do(("price", "zz", 5), None), lambda it: it.undo(), lambda it: it.tried(("turn", 1))]),
]


class Whole(unittest.TestCase):
    def test_calls_that_change_nothing(self):
        for call, make in CALLS:
            args = make()
            before = frozen(args)
            found = call(*args)
            self.assertEqual(frozen(args), before)
            told = frozen(found)
            # An equal call on an equal state.
            self.assertEqual(frozen(call(*make())), told)
            # Nothing of what is returned belongs to what was passed, or is told again.
            spoil(found)
            self.assertEqual(frozen(args), before)
            again = call(*args)
            self.assertEqual(frozen(again), told)
            self.assertEqual(frozen(args), before)

    def test_arguments_that_are_changed_behind_the_call(self):
        for call, make in CALLS:
            args = make()
            found = call(*args)
            told = frozen(found)
            spoil([item for item in args if isinstance(item, (list, dict))])
            self.assertEqual(frozen(found), told)

    def test_tuples_in_the_place_of_lists(self):
        for call, make in CALLS:
            if call is deeds.is_deed:
                continue
            told = frozen(call(*make()))
            changed = [tuplified(item) if isinstance(item, list) else item for item in make()]
            self.assertEqual(frozen(call(*changed)), told)

    def test_the_order_of_the_keys_means_nothing(self):
        for call, make in CALLS:
            told = call(*make())
            turned = [dict(list(item.items())[::-1]) if isinstance(item, dict) else item for item in make()]
            self.assertEqual(sortedly(frozen(call(*turned))), sortedly(frozen(told)))

    def test_returned_dicts_are_ascending(self):
        for call, make in CALLS:
            self.look(call(*make()))

    def look(self, value):
        if isinstance(value, dict):
            self.assertEqual(list(value), sorted(value))
        if isinstance(value, (list, tuple)):
            for item in value:
                self.look(item)

    def test_calls_that_raise_an_error_change_nothing(self):
        for make, changes in CHANGES:
            thing, other = make(), make()
            refused = 0
            for change in changes:
                before = frozen(thing)
                try:
                    found = frozen(change(thing))
                except (RollError, Missing, NothingLeft) as error:
                    refused += 1
                    self.assertEqual(frozen(thing), before)
                    with self.assertRaises(error.__class__):
                        change(other)
                else:
                    # An equal call on an equal state.
                    self.assertEqual(frozen(change(other)), found)
                self.assertEqual(frozen(thing), frozen(other))
            self.assertGreater(refused, 1)
            self.assertGreater(len(changes) - refused, 0)

    def test_methods_that_change_return_nothing_unless_they_say_so(self):
        self.assertIsNone(roll_of().turn_to(9))
        self.assertIsNone(roll_of().do(9, ("repay", "one", 1)))
        self.assertIsNone(office_of().put(Entry(9, 1, 5, GIFT)))
        self.assertIsNone(office_of().turn_to(9))
        self.assertIsNone(desk_of().do(("turn", 9)))
        self.assertIsNone(desk_of().undo())
        self.assertIsNone(desk_of().redo())

    def test_names_that_stand_for_a_parcel_a_person_and_a_claim(self):
        roll = Roll(Plat([["a", "b"]]), {"a": "a", "b": "b"})
        roll.do(1, ("charge", "a", "a", 5, ("a", "b"), ("a", "b"), False))
        roll.do(2, ("charge", "b", "b", 5, ("a", "b"), ("a", "b"), False))
        self.assertEqual(extracts.roll_text(roll), "day 0\nrow a b\nowner a a 1\nowner b b 1\n"
                                                   "claim a a 5 a b\nclaim b b 5 a b\n")


def tuplified(value):
    """The tuple with the items of a list, and with tuples in the place of the lists within it."""
    return tuple(tuplified(item) if isinstance(item, list) else item for item in value)


def sortedly(value):
    """A frozen value with the items of each dict in ascending order."""
    if not isinstance(value, tuple):
        return value
    items = [sortedly(item) for item in value]
    return tuple(items[:1] + sorted(items[1:], key=repr)) if items[:1] == ["dict"] else tuple(items)


if __name__ == "__main__":
    unittest.main()
