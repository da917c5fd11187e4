"""wishes.py [8]: is_kept, multipliers and judge_multipliers."""

import copy
import unittest

from paidinparts.plans import Plan
from paidinparts.standings import open_states
from paidinparts.wishes import broken, is_kept, judge_broken, judge_multipliers, multipliers

from tests.judges import Judged, are_multipliers, combined
from tests.tools import all_apart, ladder_parts, one_each, raised, shop, shop_parts

EMPTY = ([], [], [])
NOTHING_DONE = ([], [], 0)


def half_parts():
    """A plan and a wish that needs the check one and a half times or more, and less than twice."""
    return (["a", "b"], one_each("ab"), [{"a": 3, "b": -2}]), {"a": 5, "b": -3}


def payments_parts(checked=True):
    """Money held, taken and given back."""
    kinds = [(name, [{}, {}, {name: 1}], [("ask", 0, 1), ("do", 1, 2)]) for name in ["held", "taken", "given"]]
    checks = [{"held": 1, "taken": -1}, {"taken": 1, "given": -1}]
    return ["held", "taken", "given"], kinds, checks if checked else []


class IsKept(Judged, unittest.TestCase):
    def check_wishes(self, parts, kept, others):
        for wish in kept:
            self.assertIs(self.judge_wish(parts, wish), True)
        for wish in others:
            self.assertIs(self.judge_wish(parts, wish), False)

    def test_the_shop(self):
        kept = [{"held": 1, "taken": -1}, {"held": 2, "taken": -1}, {"held": 7, "taken": -7}, {"taken": 1}, {"held": 1}]
        kept += [{}, {"held": 0}, {"held": 0, "taken": 0}, {"held": 5, "taken": 3}]
        others = [{"held": 1, "taken": -2}, {"held": -1}, {"taken": -1}, {"held": -1, "taken": 1}]
        others += [{"held": 10**12 - 2, "taken": 1 - 10**12}, {"held": 0, "taken": -1}]
        self.check_wishes(shop_parts(), kept, others)

    def test_a_wish_that_is_kept_only_by_a_combination_of_checks(self):
        wish = {"held": 1, "given": -1}
        columns, kinds, checks = payments_parts()
        self.check_wishes((columns, kinds, checks), [wish, {"held": 2, "taken": -1, "given": -1}], [{"given": -1}])
        for fewer in [checks[:1], checks[1:], []]:
            self.check_wishes((columns, kinds, fewer), [], [wish])
        plan = Plan(columns, kinds, checks)
        for told in [(1, [1, 1]), (7, [7, 7])]:
            self.assertIs(judge_multipliers(plan, wish, told), True)
        for told in [(1, [0, 1]), (1, [1, 0]), (7, [7, 6]), (1, [2, 1]), (2, [1, 1])]:
            self.assertIs(judge_multipliers(plan, wish, told), False)

    def test_combinations_of_four_checks(self):
        names = ["a", "b", "c", "d", "e"]
        kinds = one_each(names)
        checks = [{one: 1, other: -1} for one, other in zip(names, names[1:])]
        self.check_wishes((names, kinds, checks), [{"a": 1, "e": -1}, {"a": 4, "b": -1, "c": -1, "d": -1, "e": -1}], [])
        self.check_wishes((names, kinds, checks), [], [{"a": 1, "e": -2}, {"a": 3, "b": -1, "c": -1, "d": -1, "e": -1}])
        for fewer in range(4):
            self.check_wishes((names, kinds, checks[:fewer] + checks[fewer + 1 :]), [], [{"a": 1, "e": -1}])
        plan = Plan(names, kinds, checks)
        self.assertEqual(multipliers(plan, {"a": 1, "e": -1}), (1, [1, 1, 1, 1]))

    def test_a_check_may_help_though_the_wish_has_other_columns(self):
        kinds = [("k", [{}, {"a": 1, "b": -1}], [("go", 0, 1)]), ("l", [{}, {"a": -1, "b": 3}], [("go", 0, 1)])]
        self.check_wishes((["a", "b"], kinds, [{"a": 1}]), [{"a": 1}, {"a": 2, "b": 1}, {"a": 1, "b": 1}], [{"b": 1}])

    def test_closed_states_do_not_break_a_wish(self):
        columns, kinds, checks = shop_parts()
        dry = [("hold", kinds[0][1], []), kinds[1]]
        self.check_wishes((columns, dry, checks), [{"taken": -1}, {"held": -1}, {"held": 1, "taken": -9}], [])
        self.check_wishes((columns, dry, []), [{"held": -1}], [{"taken": -1}])

    def test_states_on_the_way_count(self):
        kinds = [("k", [{}, {"a": -1}, {"a": 1}], [("go", 0, 1), ("go", 1, 2)])]
        self.check_wishes((["a"], kinds, []), [], [{"a": 1}, {"a": -1}])

    def test_levels(self):
        for many in range(1, 5):
            columns, kinds, checks = ladder_parts(many)
            kept = [{column: 1} for column in columns] + [dict.fromkeys(columns, 1)]
            self.check_wishes((columns, kinds, checks), kept, [{column: -1} for column in columns])
            self.check_wishes((columns, kinds[:-1], checks), [{column: -1} for column in columns], [])
            above = {column: at - many for at, column in enumerate(columns)}
            self.check_wishes((columns, kinds, checks), [], [above])

    def test_without_columns_kinds_steps_or_checks(self):
        for parts in [EMPTY, ([], [], [{}]), (["a"], [], []), (["a"], [], [{"a": 1}])]:
            self.check_wishes(parts, [{}, *[{"a": -1} for _ in parts[0]]], [])
        self.check_wishes((["a"], [("k", [{}, {"a": -1}], [])], []), [{"a": 1}, {"a": -1}], [])
        self.check_wishes((["a"], [("k", [{}], [])], [{"a": 1}]), [{"a": 1}, {"a": -1}], [])
        self.check_wishes(([], [("k", [{}, {}], [("go", 0, 1)])], [{}, {}]), [{}], [])

    def test_checks_without_factors(self):
        columns, kinds, _ = shop_parts()
        self.check_wishes((columns, kinds, [{}, {"held": 0}]), [{"held": 1}], [{"held": 1, "taken": -1}])

    def test_a_check_counts_even_where_it_never_refuses(self):
        kinds = [("k", [{}, {"a": 1}], [("go", 0, 1)])]
        self.check_wishes((["a"], kinds, [{"a": 1}, {"a": 5}]), [{"a": 1}], [{"a": -1}])
        self.check_wishes((["a"], kinds, [{"a": -1}]), [{"a": 1}, {"a": -1}], [])

    def test_great_factors(self):
        most = 10**12 - 1
        self.check_wishes(shop_parts(), [{"held": most, "taken": -most}], [{"held": most - 1, "taken": -most}])
        kinds = [("k", [{}, {"a": 100}], [("go", 0, 1)]), ("l", [{}, {"b": 97}], [("go", 0, 1)])]
        parts = (["a", "b"], kinds, [{"a": 97, "b": -100}])
        # The check allows b to be as great as a, counted in parts: 97 of b for 100 of a.
        self.check_wishes(parts, [{"a": 97, "b": -100}, {"a": 97 * 10**9, "b": -(10**11)}], [])
        self.check_wishes(parts, [], [{"a": 97 * 10**9 - 1, "b": -(10**11)}, {"a": 97 * 10**9, "b": -1 - 10**11}])


class Multipliers(Judged, unittest.TestCase):
    def test_a_factor_above_one(self):
        parts, wish = half_parts()
        plan = Plan(*parts)
        self.assertTrue(self.judge_wish(parts, wish))
        told = multipliers(plan, wish)
        self.assertGreaterEqual(told[0], 2)
        for number in range(-1, 9):
            self.assertIs(judge_multipliers(plan, wish, (1, [number])), False)
        right = [number for number in range(-1, 9) if judge_multipliers(plan, wish, (2, [number]))]
        self.assertEqual(right, [3])
        right = [number for number in range(99) if judge_multipliers(plan, wish, (30, [number]))]
        self.assertEqual(right, [45, 46, 47, 48, 49, 50])

    def test_none(self):
        for wish in [{"held": 1, "taken": -2}, {"taken": -1}, {"held": -1}]:
            self.assertIsNone(multipliers(shop(), wish))

    def test_without_checks(self):
        free = Plan(shop().columns, shop_parts()[1], [])
        told = multipliers(free, {"held": 1})
        self.assertEqual([type(told), told[1]], [tuple, []])
        self.assertGreaterEqual(told[0], 1)
        found = [judge_multipliers(free, {"held": 1}, (many, [])) for many in [1, 5, 0, -1]]
        self.assertEqual(found, [True, True, False, False])
        self.assertIs(judge_multipliers(free, {"held": -1}, (1, [])), False)
        empty = multipliers(Plan(*EMPTY), {})
        self.assertEqual([judge_multipliers(Plan(*EMPTY), {}, empty), empty[1]], [True, []])

    def test_what_only_closed_states_would_need(self):
        # The wish is below 0 at a closed state alone, so no check is needed.
        dry = shop().without_steps([("hold", "hold")])
        self.assertIs(judge_multipliers(dry, {"taken": -1}, (1, [0])), True)
        self.assertIs(judge_multipliers(dry, {"taken": -1}, (1, [5])), True)
        self.assertIs(judge_multipliers(dry, {"taken": -1}, multipliers(dry, {"taken": -1})), True)

    def test_kinds_of_values(self):
        factor, numbers = multipliers(shop(), {"held": 2, "taken": -1})
        self.assertEqual([type(factor), type(numbers), type(numbers[0]), len(numbers)], [int, list, int, 1])
        self.assertEqual(type(multipliers(shop(), {"held": 1})), tuple)


class JudgeMultipliers(unittest.TestCase):
    def judged(self, wish, told):
        found = judge_multipliers(shop(), wish, told)
        _, kinds, checks = shop_parts()
        self.assertIs(found, are_multipliers(kinds, checks, open_states(shop()), wish, told))
        return found

    def test_the_shop(self):
        wish = {"held": 2, "taken": -1}
        right = [(1, [1]), (1, [2]), (3, [3]), (3, [4]), (3, [6]), (10**60, [10**60]), (10**60, [2 * 10**60])]
        wrong = [(1, [0]), (1, [3]), (3, [2]), (3, [7]), (10**60, [10**60 - 1]), (10**60, [2 * 10**60 + 1])]
        self.assertEqual([self.judged(wish, told) for told in right], [True] * len(right))
        self.assertEqual([self.judged(wish, told) for told in wrong], [False] * len(wrong))

    def test_factors_below_one(self):
        for factor in [0, -1, -2, -(10**60)]:
            for number in [0, 1, -1, factor]:
                self.assertIs(self.judged({"held": 2, "taken": -1}, (factor, [number])), False)
                self.assertIs(self.judged({}, (factor, [number])), False)

    def test_numbers_below_zero(self):
        self.assertIs(self.judged({"held": 1}, (1, [-1])), False)
        self.assertIs(self.judged({"taken": 1, "held": -1}, (1, [-1])), False)
        parts = payments_parts()
        for numbers in [[-1, 0], [0, -1], [-1, -1], [2, -1]]:
            self.assertIs(judge_multipliers(Plan(*parts), {"held": 9, "taken": 9, "given": 9}, (1, numbers)), False)

    def test_lists_of_another_length(self):
        for numbers in [[], [1, 0], [1, 1], [0] * 9]:
            self.assertIs(self.judged({"held": 2, "taken": -1}, (1, numbers)), False)
            self.assertIs(self.judged({}, (1, numbers)), False)

    def test_each_check_has_its_own_number(self):
        plan = Plan(*payments_parts())
        wish = {"held": 1, "taken": 1, "given": -2}
        found = [(x, y) for x in range(4) for y in range(4) if judge_multipliers(plan, wish, (1, [x, y]))]
        self.assertEqual(found, [(1, 2)])

    def test_state_by_state_and_not_on_the_whole(self):
        kinds = [("k", [{}, {"a": 1}, {"a": -1}], [("go", 0, 1), ("on", 0, 2)])]
        plan = Plan(["a"], kinds, [])
        self.assertIs(judge_multipliers(plan, {"a": 1}, (1, [])), False)
        self.assertIs(judge_multipliers(plan, {"a": -1}, (1, [])), False)
        self.assertIs(judge_multipliers(plan, {}, (1, [])), True)

    def test_every_open_state_counts(self):
        first = ("k", [{}, {"a": 1}, {"a": 2}], [("go", 0, 1), ("on", 1, 2)])
        plan = Plan(["a", "b"], [first, ("l", [{}, {"a": 3, "b": 1}], [("go", 0, 1)])], [])
        self.assertIs(judge_multipliers(plan, {"a": 1, "b": -3}, (1, [])), True)
        self.assertIs(judge_multipliers(plan, {"a": 1, "b": -4}, (1, [])), False)
        self.assertIs(judge_multipliers(plan.without_steps([("l", "go")]), {"a": 1, "b": -4}, (1, [])), True)
        self.assertIs(judge_multipliers(plan.without_steps([("k", "on")]), {"a": -1, "b": 3}, (1, [])), False)
        self.assertIs(judge_multipliers(plan.without_steps([("k", "go")]), {"a": -1, "b": 3}, (1, [])), True)


class Guarantees(Judged, unittest.TestCase):
    def test_a_kept_wish_stays_kept_with_more_checks_and_fewer_steps(self):
        columns, kinds, checks = payments_parts()
        wish = {"held": 1, "given": -1}
        plan = Plan(columns, kinds, checks)
        for more in [{"held": 1, "taken": -2}, {"given": -1}, {}, {"held": -5, "taken": 3}]:
            self.assertIs(is_kept(plan.with_checks([more]), wish), True)
        for bar in [("held", "do"), ("taken", "ask"), ("given", "do")]:
            self.assertIs(is_kept(plan.without_steps([bar]), wish), True)

    def test_each_check_and_what_the_checks_add_up_to_is_kept(self):
        columns, kinds, checks = payments_parts()
        for first in range(4):
            for second in range(4):
                wish = combined(first, checks[0], second, checks[1])
                self.assertTrue(self.judge_wish((columns, kinds, checks), wish))


class Errors(unittest.TestCase):
    def calls(self, plan, wish):
        found = [raised(ask, plan, wish) for ask in [is_kept, multipliers, broken]]
        return found + [raised(judge_multipliers, plan, wish, (1, [1])), raised(judge_broken, plan, wish, NOTHING_DONE)]

    def test_unknown_columns(self):
        for column in ["no", "", "Held", "hold", "take"]:
            for factor in [1, 0, -1]:
                self.assertEqual(self.calls(shop(), {column: factor, "held": 1}), [("UnknownColumn", column)] * 5)
        self.assertEqual(self.calls(shop(), {"z": 0, "held": 1, "b": 0, "no": 1}), [("UnknownColumn", "b")] * 5)
        self.assertEqual(self.calls(Plan(*EMPTY), {"a": 0}), [("UnknownColumn", "a")] * 5)
        self.assertEqual(self.calls(shop(), {"held": 1}), [None] * 5)

    def test_before_what_is_told_is_looked_at(self):
        for told in [(0, []), (-1, [-1]), (1, [1, 2, 3])]:
            self.assertEqual(raised(judge_multipliers, shop(), {"no": 1}, told), ("UnknownColumn", "no"))
        for told in [([("new", "no", 0)], [], 1), ([], [("step", 9, "no")], -1)]:
            self.assertEqual(raised(judge_broken, shop(), {"no": 1}, told), ("UnknownColumn", "no"))


class NothingIsShared(unittest.TestCase):
    def test_what_was_passed_stays_as_it_was(self):
        plan, wish, told = shop(), {"taken": -1, "held": 2}, (1, [1])
        before = copy.deepcopy((wish, told))
        is_kept(plan, wish)
        multipliers(plan, wish)
        broken(plan, wish)
        broken(plan, {"taken": -1})
        judge_multipliers(plan, wish, told)
        self.assertEqual((wish, told), before)
        self.assertEqual(list(wish), list(before[0]))
        self.assertEqual(plan, shop())

    def test_every_returned_list_is_new(self):
        plan, found = shop(), []
        for _ in range(2):
            found += [multipliers(plan, {"held": 2, "taken": -1}), multipliers(plan, {}), broken(plan, {"taken": -1})]
        self.assertTrue(all_apart(*found))
        found[0][1].append(7)
        self.assertEqual(found[3], multipliers(plan, {"held": 2, "taken": -1}))

    def test_by_name(self):
        wish = {"held": 2, "taken": -1}
        self.assertEqual([is_kept(wish=wish, plan=shop()), broken(wish=wish, plan=shop())], [True, None])
        self.assertEqual(multipliers(wish=wish, plan=shop())[1], multipliers(shop(), wish)[1])
        self.assertIs(judge_multipliers(told=(1, [1]), wish=wish, plan=shop()), True)
        self.assertIs(judge_broken(told=NOTHING_DONE, wish=wish, plan=shop()), False)

    def test_kinds_of_values(self):
        found = [is_kept(shop(), {}), is_kept(shop(), {"held": -1})]
        found += [judge_multipliers(shop(), {}, (1, [0])), judge_multipliers(shop(), {}, (0, [0]))]
        self.assertEqual([type(each) for each in found], [bool] * 4)


if __name__ == "__main__":
    unittest.main()
