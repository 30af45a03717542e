"""Answers, closed lots and possible steps: [12]."""

import itertools
import random
import unittest

from deedranks.granting import fewest_steps, is_answer, possible_steps
from deedranks.plats import Plat
from deedranks.ways import Ways
from support import Case, any_values
from test_plats import random_plat, rows_of
from test_ways import small_cases


def leaves(step, lot):
    return step[0] in lot and step[1] not in lot


def plainly_an_answer(ways, further, lots):
    """The conditions of [12], one by one."""
    plat, given, possible = ways.plat, ways.steps(), possible_steps(ways.plat)
    if further != sorted(set(further)) or any(step in given or step not in possible for step in further):
        return False
    if Ways(plat, given + further).bare() or len(lots) != len(further):
        return False
    for lot in lots:
        if not lot or lot != sorted(set(lot)) or any(name not in plat or plat.fronts(name) for name in lot):
            return False
        if any(leaves(step, lot) for step in given):
            return False
    return all(sum(leaves(step, lot) for lot in lots) <= 1 for step in possible)


class Possible(Case):
    def test_all_steps_of_a_plat(self):
        plat = Plat(rows_of("ab", "cb"))
        self.same(possible_steps(plat), [("a", "b"), ("a", "c"), ("b", "a"), ("b", "c"), ("c", "a"), ("c", "b")])
        self.assertEqual(possible_steps(plat=Plat([["a"]])), [])
        chance = random.Random(21)
        for _ in range(30):
            plat = random_plat(chance)
            names = plat.names()
            self.assertEqual(possible_steps(plat), [(left, right) for left in names for right in names
                                                    if plat.border(left, right) > 0])


class Fewest(Case):
    def test_the_example(self):
        ways = Ways(Plat([["c", "b", "a"]], road=[(0, 2)]), [("b", "c")])
        self.same(fewest_steps(ways), ([("b", "a"), ("c", "b")], fewest_steps(ways=ways)[1]))
        self.assertEqual(sorted(fewest_steps(ways)[1]), [["b", "c"], ["c"]])

    def test_no_parcel_fronts(self):
        for plat in (Plat([["a"]]), Plat(rows_of("abc"))):
            self.assertIsNone(fewest_steps(Ways(plat, [])))
            self.assertIs(is_answer(Ways(plat, []), ([], [])), False)

    def test_nothing_is_wanted(self):
        for plat in (Plat([["a"]], road=[(0, 0)]), Plat(rows_of("ab"), road=[(0, 0), (0, 1)])):
            self.same(fewest_steps(Ways(plat, [])), ([], []))
            self.assertIs(is_answer(Ways(plat, []), ([], [])), True)

    def test_circles_of_given_steps(self):
        plat = Plat(rows_of("xab", "xdc", "xee"), road=[(0, 0)])
        ways = Ways(plat, [("a", "b"), ("b", "c"), ("c", "d"), ("d", "a")])
        further, lots = fewest_steps(ways)
        self.assertEqual((len(further), sorted(lots)), (2, [["a", "b", "c", "d"], ["e"]]))
        # Steps from a parcel at the road help nobody.
        ways = Ways(plat, [("x", "a"), ("a", "b")])
        self.assertEqual(len(fewest_steps(ways)[0]), 4)

    def test_answers_by_each_condition(self):
        seen = set()
        for plat, steps in small_cases(200, 22):
            ways = Ways(plat, steps)
            found = fewest_steps(ways)
            if not any(plat.fronts(name) for name in plat.names()):
                self.assertIsNone(found)
                continue
            self.assertIsInstance(found, tuple)
            further, lots = found
            seen.add(len(further))
            self.assertIsInstance(further, list)
            self.assertTrue(all(isinstance(lot, list) for lot in lots))
            self.assertTrue(plainly_an_answer(ways, further, lots))
            self.assertIs(is_answer(ways, found), True)
            self.assertIs(is_answer(value=found, ways=ways), True)
            self.assertEqual(fewest_steps(Ways(plat, steps[::-1])), found)
            self.assertEqual(ways.steps(), sorted(set(steps)))
        self.assertTrue({0, 1, 2, 3} <= seen)

    def test_no_shorter_list_will_do(self):
        for plat, steps in small_cases(60, 23):
            ways = Ways(plat, steps)
            found = fewest_steps(ways)
            if found is None or len(found[0]) > 3:
                continue
            free = [step for step in possible_steps(plat) if step not in steps]
            for more in itertools.combinations(free, len(found[0]) - 1) if found[0] else []:
                self.assertNotEqual(ways.with_steps(*more).bare(), [])

    def test_on_greater_plats(self):
        chance = random.Random(24)
        for _ in range(60):
            plat = random_plat(chance)
            steps = [step for step in possible_steps(plat) if chance.random() < 0.3]
            found = fewest_steps(Ways(plat, steps))
            if found is not None:
                self.assertTrue(plainly_an_answer(Ways(plat, steps), *found))


class Judging(Case):
    def check(self, ways, further, lots):
        """The program and the plain conditions say the same, for lists and for tuples."""
        expected = plainly_an_answer(ways, further, lots)
        self.assertIs(is_answer(ways, (further, lots)), expected)
        self.assertIs(is_answer(ways, (tuple(further), tuple(map(tuple, lots)))), expected)
        self.assertIs(is_answer(ways, [further, lots]), False)
        return expected

    def test_changed_answers(self):
        chance = random.Random(25)
        good = bad = 0
        for plat, steps in small_cases(60, 26):
            ways = Ways(plat, steps)
            found = fewest_steps(ways)
            if found is None:
                continue
            further, lots = found
            possible, names = possible_steps(plat), plat.names()
            tried = [(further[:at] + further[at + 1:], lots) for at in range(len(further))]
            tried += [(further, lots[:at] + lots[at + 1:]) for at in range(len(lots))]
            tried += [(further[:at] + further[at + 1:], lots[:at] + lots[at + 1:]) for at in range(len(lots))]
            tried += [(sorted(further + [step]), lots) for step in possible]
            tried += [(sorted(further[:at] + [step] + further[at + 1:]), lots) for at in range(len(further))
                      for step in possible]
            drawn = [sorted(chance.sample(names, chance.randrange(len(names) + 1))) for _ in range(5)]
            tried += [(further, lots[:at] + [lot] + lots[at + 1:]) for at in range(len(lots)) for lot in drawn]
            tried += [(further, lots + [lot]) for lot in drawn]
            tried += [(sorted(further + [step]), lots + [lot]) for step in possible[:4] for lot in drawn]
            tried += [(further[::-1], lots), (further, lots[::-1]), (further, [lot[::-1] for lot in lots]),
                      (further + further[:1], lots + lots[:1]), (further, lots[:-1] + lots[:1])]
            for one in tried:
                if self.check(ways, *one):
                    good += 1
                else:
                    bad += 1
        self.assertGreater(good, 40)
        self.assertGreater(bad, 1000)

    def test_values_of_any_kind(self):
        ways = Ways(Plat(rows_of("ba"), road=[(0, 1)]), [])
        self.assertIs(is_answer(ways, ([("b", "a")], [["b"]])), True)
        self.assertIs(is_answer(ways, ((("b", "a"),), (("b",),))), True)
        for value in [value for value in any_values() if value != ("b", "a")]:
            for wrong in (value, (value, value), (value, [["b"]]), ([value], [["b"]]), ([("b", "a"), value], [["b"]]),
                          ([("b", "a")], value), ([("b", "a")], [value]), ([("b", "a")], [[value]]),
                          ([("b", "a")], [["b", value]]), ([("b", "a")], [["b"], value]),
                          ([("b", "a")], [["b"]], value), ([(value, "a")], [["b"]]), [[("b", "a")], [["b"]]]):
                self.assertIs(is_answer(ways, wrong), False, wrong)
        for wrong in (([["b", "a"]], [["b"]]), ([("b", "a")], ["b"]), ([("b", "a")], [["a"]]), ([("b", "a")], [[]]),
                      ([("b", "a")], [{"b": 1}]), ({("b", "a"): 1}, [["b"]]), ([("a", "b")], [["b"]]),
                      ([("b", "a"), ("b", "a")], [["b"], ["b"]]), ([("b", "a")], [["b", "b"]])):
            self.assertIs(is_answer(ways, wrong), False, wrong)

    def test_a_given_step_is_no_further_one(self):
        ways = Ways(Plat(rows_of("cba"), road=[(0, 2)]), [("b", "a")])
        self.assertIs(is_answer(ways, ([("c", "b")], [["c"]])), True)
        self.assertIs(is_answer(ways, ([("b", "a"), ("c", "b")], [["c"], ["b", "c"]])), False)
        self.assertIs(is_answer(ways, ([("c", "b")], [["b", "c"]])), False)

    def test_no_step_leaves_two_lots(self):
        ways = Ways(Plat(rows_of("cba"), road=[(0, 2)]), [])
        self.assertIs(is_answer(ways, ([("b", "a"), ("c", "b")], [["b", "c"], ["c"]])), True)
        self.assertIs(is_answer(ways, ([("b", "a"), ("c", "b")], [["b"], ["c"]])), True)
        self.assertIs(is_answer(ways, ([("b", "a"), ("c", "b")], [["b"], ["b", "c"]])), False)


if __name__ == "__main__":
    unittest.main()
