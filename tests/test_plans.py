"""The class Plan: its properties, its methods and its equality [2], [4], [5]."""

import copy
import random
import unittest

from paidinparts.plans import Plan

from tests.tools import all_apart, raised, random_parts, shop, shop_parts


def with_one(column, worth):
    """A plan with one kind, in whose state 1 a column counts this."""
    return Plan(["held", "taken"], [("take", [{}, {column: worth}], [])], [])


class Properties(unittest.TestCase):
    def test_columns(self):
        self.assertEqual(shop().columns, ["held", "taken"])
        self.assertEqual(Plan(["taken", "held"], [], []).columns, ["taken", "held"])

    def test_kinds(self):
        self.assertEqual(
            shop().kinds,
            [
                ("hold", [[0, 0], [1, 0]], [("hold", 0, 1)]),
                ("take", [[0, 0], [0, 1], [0, 2]], [("take", 0, 1), ("again", 1, 2)]),
            ],
        )

    def test_counts_and_factors_stand_in_the_order_of_the_columns(self):
        plan = Plan(["z", "a", "m"], [("b", [{"m": 0}, {"a": 2, "z": -1}], []), ("a", [{}], [])], [{"m": 3, "z": 1}])
        self.assertEqual(plan.kinds, [("b", [[0, 0, 0], [-1, 2, 0]], []), ("a", [[0, 0, 0]], [])])
        self.assertEqual(plan.checks, [[1, 0, 3]])

    def test_steps_stay_as_they_were_passed(self):
        steps = [("z", 1, 0), ("a", 0, 1), ("a", 1, 1), ("z", 0, 0)]
        self.assertEqual(Plan([], [("k", [{}, {}], steps)], []).kinds[0][2], steps)

    def test_checks(self):
        self.assertEqual(shop().checks, [[1, -1]])
        plan = Plan(["held", "taken"], [], [{"taken": 5}, {}, {"taken": 0}, {"taken": 5}])
        self.assertEqual(plan.checks, [[0, 5], [0, 0], [0, 0], [0, 5]])

    def test_plans_without_columns_kinds_steps_or_checks(self):
        empty = Plan([], [], [])
        self.assertEqual([empty.columns, empty.kinds, empty.checks], [[], [], []])
        plan = Plan([], [("take", [{}, {}], [("go", 0, 1)])], [{}])
        self.assertEqual([plan.columns, plan.kinds, plan.checks], [[], [("take", [[], []], [("go", 0, 1)])], [[]]])
        self.assertEqual(Plan(["a"], [("take", [{}], [])], []).kinds, [("take", [[0]], [])])

    def test_kinds_of_values(self):
        for name, rows, steps in shop().kinds:
            self.assertEqual([type(name), type(rows), type(steps)], [str, list, list])
            self.assertEqual({type(row) for row in rows} | {type(step) for step in steps}, {list, tuple})
        self.assertEqual({type(kind) for kind in shop().kinds}, {tuple})
        self.assertEqual({type(factors) for factors in shop().checks}, {list})

    def test_they_are_passed_by_name_too(self):
        columns, kinds, checks = shop_parts()
        self.assertEqual(Plan(checks=checks, kinds=kinds, columns=columns), shop())

    def test_they_cannot_be_assigned(self):
        plan = shop()
        for name in ["columns", "kinds", "checks"]:
            with self.assertRaises(AttributeError):
                setattr(plan, name, [])
            self.assertIsInstance(vars(Plan)[name], property)
        self.assertEqual(plan, shop())


class NothingIsShared(unittest.TestCase):
    def test_every_list_is_new_each_time(self):
        plan = Plan(["a", "b"], [("k", [{}, {}, {"a": 1}], [("go", 0, 1)]), ("l", [{}], [])], [{"a": 1}, {}, {"a": 1}])
        found = [[plan.columns, plan.kinds, plan.checks] for _ in range(3)]
        self.assertTrue(all_apart(*found))
        self.assertEqual(found[0], found[2])

    def test_every_list_is_new_for_plans_made_of_others(self):
        plan = shop()
        plans = [plan, plan.with_checks([]), plan.with_checks([{}]), plan.without_steps([]), shop()]
        self.assertTrue(all_apart(*[[each.columns, each.kinds, each.checks] for each in plans]))

    def test_changing_what_was_returned_changes_no_plan(self):
        plan = shop()
        others = [plan.with_checks([]), plan.without_steps([])]
        for each in [plan] + others:
            each.columns.append("given")
            each.columns.clear()
            each.checks[0][0] = 7
            each.checks.clear()
            each.kinds[0][1][1][0] = 7
            each.kinds[0][1].pop()
            each.kinds[1][2].clear()
            each.kinds.clear()
        for each in [plan] + others:
            self.assertEqual(each, shop())
            self.assertEqual(each.value_at("hold", 1, {"held": 1}), 1)

    def test_changing_what_was_passed_changes_no_plan(self):
        columns, kinds, checks = shop_parts()
        plan = Plan(columns, kinds, checks)
        columns.reverse()
        kinds[0][1][1]["held"] = 7
        kinds[1][1].append({})
        kinds[1][2].clear()
        kinds.pop()
        checks[0]["held"] = 7
        checks.append({})
        self.assertEqual(plan, shop())

    def test_changing_what_was_passed_to_methods_changes_no_plan(self):
        check, bar = {"held": 1}, ("take", "again")
        checks, bars = [check], [bar]
        more, less = shop().with_checks(checks), shop().without_steps(bars)
        check["held"] = 5
        checks.clear()
        bars.append(("hold", "hold"))
        self.assertEqual(more.checks, [[1, -1], [1, 0]])
        self.assertEqual([kind[2] for kind in less.kinds], [[("hold", 0, 1)], [("take", 0, 1)]])

    def test_no_argument_is_modified(self):
        columns, kinds, checks = shop_parts()
        plan = Plan(columns, kinds, checks)
        self.assertEqual((columns, kinds, checks), shop_parts())
        more, bars, total = [{"taken": 1}], [("take", "take"), ("no", "no")], {"taken": 1, "held": 0}
        before = copy.deepcopy((more, bars, total))
        plan.with_checks(more)
        plan.without_steps(bars)
        plan.value_at("take", 1, total)
        self.assertEqual((more, bars, total), before)
        self.assertEqual(plan, shop())

    def test_dicts_that_stand_in_several_places(self):
        counts = {"held": 0}
        plan = Plan(["held"], [("a", [counts, counts], []), ("b", [counts], [])], [counts, counts])
        self.assertTrue(all_apart(plan.kinds, plan.checks))
        self.assertEqual([plan.kinds, plan.checks], [[("a", [[0], [0]], []), ("b", [[0]], [])], [[0], [0]]])


class ValueAt(unittest.TestCase):
    def test_values(self):
        plan = shop()
        self.assertEqual(plan.value_at("take", 2, {"held": 3, "taken": -1}), -2)
        self.assertEqual([plan.value_at("take", state, {"taken": 4}) for state in range(3)], [0, 4, 8])
        self.assertEqual([plan.value_at("hold", state, {"taken": 4}) for state in range(2)], [0, 0])
        self.assertEqual(plan.value_at("hold", 1, {}), 0)
        self.assertEqual(plan.value_at("hold", 1, {"held": 0}), 0)

    def test_it_takes_each_column_with_its_own_factor(self):
        plan = Plan(["z", "a", "m"], [("k", [{}, {"m": 2, "z": 3, "a": -5}], [])], [])
        self.assertEqual(plan.value_at("k", 1, {"a": 100, "z": 1, "m": 10}), 3 - 500 + 20)
        self.assertEqual(plan.value_at("k", 1, {"m": -1, "a": -1}), 3)

    def test_without_columns(self):
        self.assertEqual(Plan([], [("k", [{}], [])], []).value_at("k", 0, {}), 0)

    def test_by_name(self):
        self.assertEqual(shop().value_at(total={"held": 2}, state=1, kind="hold"), 2)

    def test_great_numbers(self):
        self.assertEqual(with_one("held", -100).value_at("take", 1, {"held": 10**60}), -(10**62))
        self.assertEqual(with_one("held", 10**60).value_at("take", 1, {"held": 10**60}), 10**120)

    def test_errors(self):
        plan = shop()
        for kind in ["no", "", "Hold", "held", "hold "]:
            self.assertEqual(raised(plan.value_at, kind, 0, {}), ("UnknownKind", kind))
        for state in [-1, -2, 2, 3, 10**60, -(10**60)]:
            self.assertEqual(raised(plan.value_at, "hold", state, {}), ("NoState", state))
        for column in ["no", "", "hold", "Held"]:
            for factor in [1, 0]:
                self.assertEqual(raised(plan.value_at, "hold", 1, {column: factor}), ("UnknownColumn", column))
        self.assertEqual(raised(plan.value_at, "hold", 0, {"z": 1, "held": 1, "b": 0, "no": 1}), ("UnknownColumn", "b"))
        self.assertEqual(raised(Plan([], [], []).value_at, "hold", 0, {}), ("UnknownKind", "hold"))

    def test_the_states_of_each_kind_count_for_it(self):
        self.assertEqual(raised(shop().value_at, "take", 3, {}), ("NoState", 3))
        self.assertIsNone(raised(shop().value_at, "take", 2, {}))

    def test_the_order_of_the_errors(self):
        plan = shop()
        self.assertEqual(raised(plan.value_at, "no", 9, {"no": 1}), ("UnknownKind", "no"))
        self.assertEqual(raised(plan.value_at, "hold", 9, {"no": 1}), ("NoState", 9))
        self.assertEqual(raised(plan.value_at, "hold", 1, {"no": 1}), ("UnknownColumn", "no"))


class WithChecks(unittest.TestCase):
    def test_they_stand_behind_its_own(self):
        plan = shop().with_checks([{"taken": 1}, {}, {"taken": 1}])
        self.assertEqual(plan.checks, [[1, -1], [0, 1], [0, 0], [0, 1]])
        self.assertEqual([plan.columns, plan.kinds], [shop().columns, shop().kinds])

    def test_one_after_the_other(self):
        plan = shop()
        self.assertEqual(plan.with_checks([{"taken": 1}]).with_checks([{"held": 2}]).checks, [[1, -1], [0, 1], [2, 0]])
        self.assertEqual(plan, shop())

    def test_none_at_all(self):
        self.assertEqual(shop().with_checks([]), shop())
        self.assertEqual(Plan([], [], []).with_checks([{}]).checks, [[]])

    def test_errors(self):
        plan = shop()
        self.assertEqual(raised(plan.with_checks, [{"held": 1}, {"no": 0}]), ("UnknownColumn", "no"))
        self.assertEqual(raised(plan.with_checks, [{"z": 1, "b": 0}, {"a": 1}]), ("UnknownColumn", "b"))
        self.assertEqual(plan, shop())

    def test_by_name(self):
        self.assertEqual(shop().with_checks(checks=[{}]).checks, [[1, -1], [0, 0]])


class WithoutSteps(unittest.TestCase):
    def steps_without(self, bars):
        plan = Plan(
            ["held"],
            [
                ("a", [{}, {"held": 1}], [("go", 0, 1), ("hear", 0, 1), ("go", 1, 0)]),
                ("b", [{}, {}], [("go", 0, 1), ("back", 1, 0)]),
                ("go", [{}], [("a", 0, 0)]),
            ],
            [{"held": 1}],
        )
        before = copy.deepcopy([plan.columns, plan.kinds, plan.checks])
        less = plan.without_steps(bars)
        self.assertEqual([plan.columns, plan.kinds, plan.checks], before)
        self.assertEqual([less.columns, less.checks], [plan.columns, plan.checks])
        self.assertEqual([kind[:2] for kind in less.kinds], [kind[:2] for kind in plan.kinds])
        return [[step for step in kind[2]] for kind in less.kinds]

    def test_steps_of_one_kind(self):
        self.assertEqual(
            self.steps_without([("b", "back")]),
            [[("go", 0, 1), ("hear", 0, 1), ("go", 1, 0)], [("go", 0, 1)], [("a", 0, 0)]],
        )

    def test_all_steps_of_the_kind_with_the_name(self):
        self.assertEqual(
            self.steps_without([("a", "go")]), [[("hear", 0, 1)], [("go", 0, 1), ("back", 1, 0)], [("a", 0, 0)]]
        )

    def test_several(self):
        bars = [("go", "a"), ("b", "go"), ("a", "hear"), ("b", "go")]
        self.assertEqual(self.steps_without(bars), [[("go", 0, 1), ("go", 1, 0)], [("back", 1, 0)], []])

    def test_tuples_that_name_no_step_change_nothing(self):
        whole = self.steps_without([])
        for bar in [("a", "no"), ("no", "go"), ("go", "go"), ("b", "hear"), ("", ""), ("A", "go"), ("a", "Go")]:
            self.assertEqual(self.steps_without([bar]), whole)
        self.assertEqual(whole[1], [("go", 0, 1), ("back", 1, 0)])

    def test_the_same_plan_where_nothing_is_barred(self):
        self.assertEqual(shop().without_steps([]), shop())
        self.assertEqual(shop().without_steps([("no", "no")]), shop())
        self.assertEqual(Plan([], [], []).without_steps([("a", "b")]), Plan([], [], []))

    def test_by_name(self):
        self.assertEqual(shop().without_steps(bars=[("take", "again")]).kinds[1][2], [("take", 0, 1)])


class Equality(unittest.TestCase):
    def others(self):
        """Plans that differ from the shop in one thing each."""
        columns, kinds, checks = shop_parts()
        hold, take = kinds
        return [
            Plan(["taken", "held"], kinds, checks),
            Plan(["held", "taken", "a"], kinds, checks),
            Plan(columns, [take, hold], checks),
            Plan(columns, [hold], checks),
            Plan(columns, [("hole", *hold[1:]), take], checks),
            Plan(columns, [("hold", [{}, {"held": 2}], hold[2]), take], checks),
            Plan(columns, [("hold", [{}, {"held": 1}, {}], hold[2]), take], checks),
            Plan(columns, [("hold", hold[1], [("hold", 0, 0)]), take], checks),
            Plan(columns, [("hold", hold[1], [("holy", 0, 1)]), take], checks),
            Plan(columns, [hold, (take[0], take[1], take[2][::-1])], checks),
            Plan(columns, kinds, []),
            Plan(columns, kinds, checks * 2),
            Plan(columns, kinds, [{"held": 1, "taken": -2}]),
            Plan(columns, kinds, [{"held": 1}]),
        ]

    def test_plans_that_differ(self):
        plans = [shop()] + self.others()
        for at, one in enumerate(plans):
            for other_at, other in enumerate(plans):
                self.assertIs(one == other, at == other_at)
                self.assertIs(one != other, at != other_at)

    def test_plans_that_differ_in_their_columns_alone(self):
        plans = [Plan(columns, [], []) for columns in [[], ["a"], ["b"], ["a", "b"], ["b", "a"]]]
        for at, one in enumerate(plans):
            self.assertEqual([one == other for other in plans], [at == place for place in range(5)])

    def test_equal_plans(self):
        columns, kinds, _ = shop_parts()
        kinds[0] = ("hold", [{"held": 0, "taken": 0}, {"taken": 0, "held": 1}], [("hold", 0, 1)])
        other = Plan(columns, kinds, [{"taken": -1, "held": 1}])
        self.assertIs(shop() == other, True)
        self.assertIs(shop() != other, False)
        self.assertEqual(Plan(["a"], [], [{"a": 0}]), Plan(["a"], [], [{}]))

    def test_the_order_of_the_checks_counts(self):
        one, other = Plan(["a"], [], [{}, {"a": 1}]), Plan(["a"], [], [{"a": 1}, {}])
        self.assertIs(one == other, False)

    def test_a_plan_is_not_equal_to_anything_else(self):
        class Likeness:
            columns, kinds, checks = shop().columns, shop().kinds, shop().checks
            _columns, _kinds, _checks = shop()._columns, shop()._kinds, shop()._checks

        class Yes:
            def __eq__(self, other):
                return True

        plan = shop()
        strangers = [None, 0, 1, True, "", "held", [], (), {}, [plan], shop_parts(), object(), Plan, Likeness(), Yes()]
        strangers.append((plan.columns, plan.kinds, plan.checks))
        for other in strangers:
            self.assertIs(plan == other, False)
            self.assertIs(plan != other, True)

    def test_the_class_has_its_own(self):
        for name in ["__eq__", "value_at", "with_checks", "without_steps", "columns", "kinds", "checks"]:
            self.assertIn(name, vars(Plan))


class ManyPlans(unittest.TestCase):
    def test_properties_values_and_methods_of_random_plans(self):
        chance = random.Random(4)
        for _ in range(300):
            columns, kinds, checks = random_parts(chance)
            given = copy.deepcopy((columns, kinds, checks))
            plan = Plan(columns, kinds, checks)
            self.assertEqual((columns, kinds, checks), given)
            self.assertEqual(plan.columns, columns)
            self.assertEqual(plan.checks, [[check.get(column, 0) for column in columns] for check in checks])
            for (name, states, steps), (kind, rows, done) in zip(kinds, plan.kinds, strict=True):
                self.assertEqual((name, steps), (kind, done))
                self.assertEqual(rows, [[counts.get(column, 0) for column in columns] for counts in states])
            self.check_values(chance, plan, columns, kinds)
            self.check_methods(chance, plan, columns, kinds, checks)

    def check_values(self, chance, plan, columns, kinds):
        total = {column: chance.randint(-9, 9) for column in columns if chance.random() < 0.6}
        for name, states, _ in kinds:
            for at, counts in enumerate(states):
                right = sum(factor * counts.get(column, 0) for column, factor in total.items())
                self.assertEqual(plan.value_at(name, at, total), right)

    def check_methods(self, chance, plan, columns, kinds, checks):
        more = [{column: chance.randint(-9, 9) for column in columns} for _ in range(2)]
        self.assertEqual(plan.with_checks(more), Plan(columns, kinds, checks + more))
        bars = [(chance.choice(["hold", "take", "a"]), chance.choice(["go", "back", "hear"])) for _ in range(2)]
        left = [(name, rows, [step for step in steps if (name, step[0]) not in bars]) for name, rows, steps in kinds]
        self.assertEqual(plan.without_steps(bars), Plan(columns, left, checks))
        self.assertEqual(plan, Plan(columns, kinds, checks))


if __name__ == "__main__":
    unittest.main()
