"""least.py: all least sets of offered checks, and of barred steps."""

import copy
import itertools
import random
import unittest

from paidinparts.least import least_bars, least_checks, least_sets
from paidinparts.plans import Plan
from paidinparts.wishes import is_kept

from tests.test_decided_random import some_wish, uneven_ladder
from tests.tools import all_apart, ladder_parts, one_each, raised, random_parts, random_table, shop_parts

EMPTY = ([], [], [])
# Two kinds that raise one column each by three times as much again and again, and one that goes around.
THREES = (
    ["a", "b"],
    [
        ("z", [{}, {}], [("q", 0, 1), ("p", 1, 0)]),
        ("x", [{}, {"a": 3}, {"a": 6}, {"a": 9}], [("p", 0, 1), ("q", 1, 2), ("q", 2, 3)]),
        ("y", [{}, {"b": 3}, {"b": 6}, {"b": 9}], [("p", 0, 1), ("q", 1, 2), ("q", 2, 3)]),
    ],
    [],
)
OFFERED = [{"held": 2, "taken": -1}, {"held": 1, "taken": -1}, {"held": 1, "taken": -2}]
WISH = {"held": 1, "taken": -1}


def free_parts():
    """The document's shop, without checks."""
    columns, kinds, _ = shop_parts()
    return columns, kinds, []


def least_of(many, is_enough):
    """All sets of numbers below `many` that are enough, and of which no proper subset is, by trying all subsets."""
    every = [list(each) for size in range(many + 1) for each in itertools.combinations(range(many), size)]
    enough = [each for each in every if is_enough(each)]
    return [each for each in enough if not any(set(other) < set(each) for other in enough)]


def all_bars(kinds):
    """All pairs of a kind and a name of a step."""
    return [(kind, name) for kind, _, steps in kinds for name in dict.fromkeys(step[0] for step in steps)]


class LeastChecks(unittest.TestCase):
    def check_sets(self, parts, wish, offered, sets):
        plan = Plan(*parts)
        self.assertEqual(least_checks(plan, wish, offered), sets)
        tried = least_of(len(offered), lambda each: is_kept(plan.with_checks([offered[at] for at in each]), wish))
        self.assertEqual(sets, tried)

    def test_the_document(self):
        self.check_sets(free_parts(), WISH, OFFERED, [[1], [2]])
        self.check_sets(free_parts(), {"taken": 1}, [], [[]])

    def test_a_wish_that_is_kept_needs_no_check(self):
        self.check_sets(shop_parts(), WISH, OFFERED, [[]])
        self.check_sets(free_parts(), {}, [{}, {}], [[]])
        self.check_sets(EMPTY, {}, [{}], [[]])

    def test_no_set_is_enough(self):
        self.check_sets(free_parts(), WISH, [], [])
        self.check_sets(free_parts(), WISH, OFFERED[:1], [])
        self.check_sets(free_parts(), {"held": -1}, [{"held": 1}, {"taken": 1}, {}], [])

    def test_sets_of_two_and_of_three(self):
        names = ["a", "b", "c", "d"]
        kinds = one_each(names)
        chain = [{"a": 1, "b": -1}, {"b": 1, "c": -1}, {"c": 1, "d": -1}]
        self.check_sets((names, kinds, []), {"a": 1, "d": -1}, chain, [[0, 1, 2]])
        self.check_sets((names, kinds, []), {"a": 1, "c": -1}, chain[::-1], [[1, 2]])
        self.check_sets((names, kinds, chain[1:2]), {"a": 1, "d": -1}, [chain[2], chain[0]], [[0, 1]])
        mixed = [chain[2], {"a": 1, "c": -1}, chain[1], chain[0]]
        self.check_sets((names, kinds, []), {"a": 1, "d": -1}, mixed, [[0, 1], [0, 2, 3]])
        self.check_sets((names, kinds, []), {"a": 1, "d": -1}, mixed[::-1], [[2, 3], [0, 1, 3]])

    def test_smaller_sets_stand_first_and_then_the_lists_of_indexes(self):
        names = ["a", "b", "c"]
        kinds = one_each(names)
        offered = [{"a": 1, "b": -1}, {"b": 1, "c": -1}, {"a": 1, "c": -1}, {"a": 2, "b": -1, "c": -1}]
        self.check_sets((names, kinds, []), {"a": 1, "c": -1}, offered, [[2], [0, 1], [1, 3]])

    def test_equal_checks(self):
        self.check_sets(free_parts(), WISH, [WISH, {"taken": -1, "held": 1}, OFFERED[0], WISH], [[0], [1], [3]])
        self.check_sets(free_parts(), {"held": -1}, [{"held": -1}] * 4, [[0], [1], [2], [3]])

    def test_a_check_that_closes_states(self):
        self.check_sets(free_parts(), {"taken": -1}, [{"held": -1}, WISH, {"taken": -1}], [[2], [0, 1]])

    def test_a_check_that_refuses_only_what_must_be_there_first(self):
        # Moved side by side the two kinds keep the offered check, but neither can be moved first.
        for up, down in [(1, 1), (3, 2)]:
            kinds = [
                ("down", [{}, {"a": -1, "b": -1, "c": down}], [("go", 0, 1)]),
                ("up", [{}, {"a": 1, "c": -up}], [("go", 0, 1)]),
            ]
            for turned in [kinds, kinds[::-1]]:
                self.check_sets((["a", "b", "c"], turned, [{"a": 1}]), {"b": 1}, [{"c": 1}], [[0]])
                self.check_sets((["a", "b", "c"], turned, []), {"b": 1}, [{"c": 1}, {"a": 1}], [[0, 1]])

    def test_kinds_that_rise_by_threes(self):
        offered = [{"a": 1, "b": -2}, {"a": 7, "b": -3}, {"a": 2, "b": 0}, {"a": 9, "b": -4}]
        self.check_sets(THREES, {"a": 5, "b": -3}, offered, [[0]])
        self.check_sets(THREES, {"a": 5, "b": -3}, offered[1:], [])

    def test_levels(self):
        chance = random.Random(15)
        seen = set()
        for _ in range(150):
            columns, kinds, checks = uneven_ladder(chance)
            wish = some_wish(chance, columns, checks)
            own = chance.randint(0, len(checks))
            plan, offered = Plan(columns, kinds, checks[:own]), checks[own:]
            sets = least_of(len(offered), lambda each: is_kept(plan.with_checks([offered[at] for at in each]), wish))
            self.assertEqual(least_checks(plan, wish, offered), sets)
            seen.update([len(sets[0])] if sets else [])
        self.assertGreaterEqual(len(seen), 3)

    def test_errors(self):
        plan = Plan(*free_parts())
        for column in ["no", "", "Held", "hold"]:
            strange = {column: 0, "held": 1}
            for place in range(3):
                offered = [strange if at == place else {"held": 1} for at in range(3)]
                self.assertEqual(raised(least_checks, plan, WISH, offered), ("UnknownColumn", column))
            self.assertEqual(raised(least_checks, plan, strange, []), ("UnknownColumn", column))
        self.assertEqual(raised(least_checks, plan, {"z": 1}, [{"a": 1}]), ("UnknownColumn", "z"))
        self.assertEqual(raised(least_checks, plan, {}, [{}, {"z": 0, "y": 1}, {"a": 1}]), ("UnknownColumn", "y"))

    def test_random_plans(self):
        chance = random.Random(5)
        seen = set()
        for _ in range(250):
            columns, kinds, checks = random_parts(chance)
            offered = [random_table(chance, columns, -2, 2) for _ in range(chance.randint(0, 4 - len(checks)))]
            wish = random_table(chance, columns, -2, 3)
            if offered and chance.random() < 0.6:
                wish = {column: sum(check.get(column, 0) for check in offered[:3]) for column in columns}
            plan = Plan(columns, kinds, checks)
            sets = least_of(len(offered), lambda each: is_kept(plan.with_checks([offered[at] for at in each]), wish))
            self.assertEqual(least_checks(plan, wish, offered), sets)
            seen.update([(len(sets) > 1, len(sets[0])) if sets else None])
        self.assertGreaterEqual(len(seen), 4)


class LeastBars(unittest.TestCase):
    def check_sets(self, parts, wish, sets):
        plan, pairs = Plan(*parts), all_bars(parts[1])
        self.assertEqual(least_bars(plan, wish), sets)
        tried = least_of(len(pairs), lambda each: is_kept(plan.without_steps([pairs[at] for at in each]), wish))
        self.assertEqual(sets, [[pairs[at] for at in each] for each in tried])

    def test_the_document(self):
        self.check_sets(free_parts(), WISH, [[("take", "take")]])

    def test_a_wish_that_is_kept_needs_no_bar(self):
        columns = ["held", "taken"]
        for parts in [shop_parts(), (columns, [], []), (columns, [("k", [{}], [("go", 0, 0)])], [])]:
            self.check_sets(parts, WISH, [[]])
        self.check_sets(EMPTY, {}, [[]])

    def test_any_step_on_the_way(self):
        self.check_sets(shop_parts(), {"held": -1}, [[("hold", "hold")]])
        self.check_sets(free_parts(), {"held": 1, "taken": -2}, [[("take", "take")]])
        self.check_sets(shop_parts(), {"held": 1, "taken": -2}, [[("hold", "hold")], [("take", "take")]])
        way = [("k", [{}, {}, {}, {"a": -1}], [("x", 0, 1), ("y", 1, 2), ("z", 2, 3)])]
        self.check_sets((["a"], way, []), {"a": 1}, [[("k", "x")], [("k", "y")], [("k", "z")]])

    def test_two_ways(self):
        ways = [("k", [{}, {"b": 1}, {"b": 2}, {"a": -1}], [("y", 2, 3), ("x", 0, 1), ("u", 0, 2), ("v", 1, 3)])]
        sets = [[("k", one), ("k", other)] for one, other in [("y", "x"), ("y", "v"), ("x", "u"), ("u", "v")]]
        self.check_sets((["a", "b"], ways, []), {"a": 1}, sets)

    def test_a_name_that_several_steps_have_is_barred_with_all_of_them(self):
        ways = [("k", [{}, {}, {}, {"a": -1}], [("y", 2, 3), ("x", 0, 1), ("x", 1, 3), ("y", 0, 2)])]
        self.check_sets((["a"], ways, []), {"a": 1}, [[("k", "y"), ("k", "x")]])
        same = [(kind, [{}, {"a": -1}], [("go", 0, 1)]) for kind in ["l", "k"]]
        self.check_sets((["a"], same, []), {"a": 1}, [[("l", "go"), ("k", "go")]])

    def test_order_of_sets_and_tuples(self):
        kinds = [
            ("z", [{}, {"a": -1}, {"b": 1}], [("q", 2, 1), ("p", 0, 2), ("q", 0, 0)]),
            ("a", [{}, {"a": -1}], [("p", 0, 1), ("o", 1, 0)]),
        ]
        parts = (["a", "b"], kinds, [{"b": 1, "a": 1}])
        self.check_sets(parts, {"a": 1}, [[("z", "p")], [("z", "q"), ("a", "p")]])
        self.check_sets((["a", "b"], kinds[::-1], []), {"a": 1}, [[("a", "p"), ("z", "q")], [("a", "p"), ("z", "p")]])

    def test_kinds_that_rise_by_threes(self):
        self.check_sets(THREES, {"a": 5, "b": -3}, [[("y", "p")]])
        self.check_sets(THREES, {"a": -5, "b": -3}, [[("x", "p"), ("y", "p")]])

    def test_uneven_levels(self):
        chance = random.Random(16)
        for _ in range(60):
            columns, kinds, checks = uneven_ladder(chance)
            kinds, wish = kinds[:3], some_wish(chance, columns, checks)
            plan, pairs = Plan(columns, kinds, checks), all_bars(kinds)
            sets = least_of(len(pairs), lambda each: is_kept(plan.without_steps([pairs[at] for at in each]), wish))
            self.assertEqual(least_bars(plan, wish), [[pairs[at] for at in each] for each in sets])

    def test_levels(self):
        for many in range(1, 5):
            parts = ladder_parts(many)
            for at, column in enumerate(parts[0]):
                sets = [[(kind[0], "go")] for kind in parts[1][at:]]
                self.check_sets(parts, {column: -1}, sets)

    def test_errors(self):
        plan = Plan(*free_parts())
        for column in ["no", "", "Held", "hold"]:
            self.assertEqual(raised(least_bars, plan, {column: 0, "held": 1}), ("UnknownColumn", column))
        self.assertEqual(raised(least_bars, plan, {"z": 0, "b": 0, "held": 1}), ("UnknownColumn", "b"))
        self.assertEqual(raised(least_bars, Plan(*EMPTY), {"a": 0}), ("UnknownColumn", "a"))

    def test_random_plans(self):
        chance = random.Random(6)
        seen = set()
        for _ in range(120):
            columns, kinds, checks = random_parts(chance)
            pairs = all_bars(kinds)
            if len(pairs) > 6:
                continue
            wish = random_table(chance, columns, -3, 2)
            plan = Plan(columns, kinds, checks)
            sets = least_of(len(pairs), lambda each: is_kept(plan.without_steps([pairs[at] for at in each]), wish))
            self.assertEqual(least_bars(plan, wish), [[pairs[at] for at in each] for each in sets])
            seen.update([(len(sets) > 1, len(sets[0]))])
        self.assertGreaterEqual(len(seen), 4)


class LeastSets(unittest.TestCase):
    """least_sets is not part of the interface: it finds all sets, whatever it is told of those that are not enough."""

    def check_sets(self, chance, many, needs):
        """A set is enough if it has some number of each need; of a set that is not, any missed need is told."""
        asked = []

        def ask(bits):
            asked.append(bits)
            missed = [need for need in needs if not any(bits >> at & 1 for at in need)]
            return sum(1 << at for at in chance.choice(missed)) if missed else None

        sets = least_of(many, lambda each: all(set(need) & set(each) for need in needs))
        self.assertEqual(least_sets(ask), sets)
        self.assertEqual(len(asked), len(set(asked)))
        return len(sets)

    def test_few_needs(self):
        chance = random.Random(1)
        for needs, many in [([], 1), ([[]], 0), ([[0, 1], []], 0), ([[0], [1], [2]], 1), ([[0, 1], [1, 2], [0, 2]], 3)]:
            self.assertEqual(self.check_sets(chance, 3, needs), many)

    def test_random_needs(self):
        chance = random.Random(2)
        seen = set()
        for _ in range(300):
            many = chance.randint(0, 6)
            sizes = [chance.randint(min(1, many), many) for _ in range(chance.randint(0, 6))]
            needs = [chance.sample(range(many), size) for size in sizes]
            seen.add(self.check_sets(chance, many, needs))
        self.assertGreaterEqual(len(seen), 6)


class NothingIsShared(unittest.TestCase):
    def test_what_was_passed_stays_as_it_was(self):
        plan, wish, offered = Plan(*free_parts()), dict(WISH), copy.deepcopy(OFFERED)
        least_checks(plan, wish, offered)
        least_bars(plan, wish)
        raised(least_checks, plan, wish, [{"no": 1}])
        self.assertEqual([wish, offered, plan], [WISH, OFFERED, Plan(*free_parts())])

    def test_every_returned_list_is_new(self):
        plan, found = Plan(*free_parts()), []
        for _ in range(2):
            found += [least_checks(plan, WISH, OFFERED), least_checks(plan, {}, [])]
            found += [least_bars(plan, WISH), least_bars(plan, {})]
        self.assertTrue(all_apart(*found))
        for each in found:
            each[0].append(7)
        self.assertEqual(least_checks(plan, WISH, OFFERED), [[1], [2]])
        self.assertEqual(least_bars(plan, WISH), [[("take", "take")]])

    def test_kinds_of_values(self):
        plan = Plan(*free_parts())
        self.assertEqual([type(each) for each in least_checks(plan, WISH, OFFERED)], [list, list])
        self.assertEqual([type(each) for each in least_bars(plan, WISH)[0]], [tuple])

    def test_by_name(self):
        self.assertEqual(least_checks(offered=OFFERED, wish=WISH, plan=Plan(*free_parts())), [[1], [2]])
        self.assertEqual(least_bars(wish=WISH, plan=Plan(*free_parts())), [[("take", "take")]])


if __name__ == "__main__":
    unittest.main()
