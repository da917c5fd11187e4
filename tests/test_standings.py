"""standings.py [7]: open states and steps, sums that can rise, and runs to states."""

import copy
import unittest

from paidinparts.plans import Plan
from paidinparts.runs import is_run
from paidinparts.standings import can_rise, open_states, open_steps, run_to

from tests.judges import Judged, all_states
from tests.tools import all_apart, ladder_parts, one_each, parts_after, raised, shop, shop_parts

EMPTY = ([], [], [])


def told(parts):
    """The open states and the open steps of a plan."""
    plan = Plan(*parts)
    return [open_states(plan), open_steps(plan)]


class OpenStatesAndSteps(Judged, unittest.TestCase):
    def check_told(self, parts, states, steps):
        self.assertEqual(told(parts), [states, steps])
        self.judge_standing(parts)

    def test_the_shop(self):
        states = [("hold", 0), ("hold", 1), ("take", 0), ("take", 1), ("take", 2)]
        self.check_told(shop_parts(), states, [("hold", "hold", 0), ("take", "take", 0), ("take", "again", 1)])

    def test_a_shop_that_holds_nothing(self):
        columns, kinds, checks = shop_parts()
        self.check_told((columns, [("hold", [{}], []), kinds[1]], checks), [("hold", 0), ("take", 0)], [])
        self.check_told((columns, kinds[1:], checks), [("take", 0)], [])

    def test_without_checks_all_that_steps_lead_to_is_open(self):
        columns, kinds, _ = shop_parts()
        self.check_told((columns, kinds, []), all_states(kinds), [(k, n, s) for k, _, w in kinds for n, s, _ in w])
        states = [{}, {"taken": 5}, {"held": -7}, {}]
        walks = [("a", 2, 1), ("b", 0, 2), ("a", 3, 0), ("a", 0, 0)]
        open_walks = [("k", "a", 2), ("k", "b", 0), ("k", "a", 0)]
        self.check_told((columns, [("k", states, walks)], []), [("k", 0), ("k", 1), ("k", 2)], open_walks)

    def test_without_columns_kinds_or_steps(self):
        self.check_told(EMPTY, [], [])
        self.check_told(([], [], [{}, {}]), [], [])
        self.check_told((["a"], [], [{"a": 1}]), [], [])
        self.check_told(([], [("k", [{}, {}, {}], [("go", 0, 2)])], [{}]), [("k", 0), ("k", 2)], [("k", "go", 0)])
        self.check_told((["a"], [("k", [{}, {"a": 1}], [])], [{"a": 1}]), [("k", 0)], [])

    def test_kinds_of_one_state(self):
        kinds = [("k", [{}], []), ("l", [{}], [("go", 0, 0), ("on", 0, 0)])]
        self.check_told((["a"], kinds, [{"a": -1}]), [("k", 0), ("l", 0)], [("l", "go", 0), ("l", "on", 0)])

    def test_a_step_that_lowers_a_check_which_never_rises(self):
        for check in [{"a": 1}, {"a": 7, "b": 0}]:
            kinds = [("k", [{}, {"a": -1}, {"b": 1}], [("go", 0, 1), ("on", 1, 2), ("by", 0, 2), ("on", 2, 1)])]
            self.check_told((["a", "b"], kinds, [check]), [("k", 0), ("k", 2)], [("k", "by", 0)])

    def test_every_check_that_a_step_lowers_has_to_rise(self):
        up = one_each("ab")
        both = ("k", [{}, {"a": -1, "b": -1}], [("go", 0, 1)])
        checks = [{"a": 1}, {"b": 1}]
        for kinds in [[both], up[:1] + [both], [both] + up[1:]]:
            states = [place for place in all_states(kinds) if place != ("k", 1)]
            self.check_told((["a", "b"], kinds, checks), states, [(kind[0], "go", 0) for kind in kinds if kind != both])
        kinds = [both] + up
        self.check_told((["a", "b"], kinds, checks), all_states(kinds), [(kind[0], "go", 0) for kind in kinds])

    def test_a_step_that_raises_one_check_and_lowers_another(self):
        kinds = [("k", [{}, {"a": 1, "b": -1}], [("go", 0, 1)])]
        self.check_told((["a", "b"], kinds, [{"a": 1}, {"b": 1}]), [("k", 0)], [])
        self.check_told((["a", "b"], kinds, [{"a": 1}]), [("k", 0), ("k", 1)], [("k", "go", 0)])
        self.check_told((["a", "b"], kinds, [{"a": 1, "b": 1}]), [("k", 0), ("k", 1)], [("k", "go", 0)])

    def test_two_that_would_help_one_another_stay_closed(self):
        kinds = [("k", [{}, {"a": 1, "b": -1}], [("go", 0, 1)]), ("l", [{}, {"a": -1, "b": 1}], [("go", 0, 1)])]
        self.check_told((["a", "b"], kinds, [{"a": 1}, {"b": 1}]), [("k", 0), ("l", 0)], [])
        double = [("k", [{}, {"a": 3, "b": -1}], [("go", 0, 1)]), ("l", [{}, {"a": -1, "b": 3}], [("go", 0, 1)])]
        self.check_told((["a", "b"], double, [{"a": 1}, {"b": 1}]), [("k", 0), ("l", 0)], [])

    def test_a_check_falls_back_to_zero_but_never_rises(self):
        kinds = [("k", [{}, {"a": 1}, {}], [("go", 0, 1), ("on", 1, 2)])]
        self.check_told((["a"], kinds, [{"a": 1}, {"a": -1}]), [("k", 0)], [])
        kinds = [("k", [{}, {"a": 0}, {"a": -1}], [("go", 0, 1), ("on", 1, 2), ("back", 1, 0)])]
        self.check_told((["a"], kinds, [{"a": 1}]), [("k", 0), ("k", 1)], [("k", "go", 0), ("k", "back", 1)])

    def test_a_part_may_spend_what_it_brought_itself(self):
        kinds = [("k", [{}, {"a": 2}, {"a": -5}], [("go", 0, 1), ("on", 1, 2)])]
        self.check_told((["a"], kinds, [{"a": 1}]), all_states(kinds), [("k", "go", 0), ("k", "on", 1)])

    def test_levels(self):
        for many in range(1, 5):
            parts = ladder_parts(many)
            kinds = parts[1]
            self.check_told(parts, all_states(kinds), [(kind[0], "go", 0) for kind in kinds])
            for missing in range(many):
                fewer = [kind for at, kind in enumerate(kinds) if at != missing]
                below = {kind[0] for kind in kinds[missing + 1 :]}
                states = [place for place in all_states(fewer) if place[1] == 0 or place[0] in below]
                steps = [(kind[0], "go", 0) for kind in fewer if kind[0] in below]
                self.check_told((parts[0], fewer, parts[2]), states, steps)

    def test_levels_in_which_a_check_rises_only_by_two_kinds_together(self):
        kinds = [
            ("k", [{}, {"a": 2, "b": -1, "z": -1}], [("go", 0, 1)]),
            ("l", [{}, {"a": -1, "b": 2, "z": -1}], [("go", 0, 1)]),
            ("m", [{}, {"a": 1, "b": 1, "y": 1}], [("go", 0, 1)]),
            ("n", [{}, {"z": 3, "y": -1}], [("go", 0, 1)]),
        ]
        checks = [{"a": 1}, {"b": 1}, {"y": 1}, {"z": 1}]
        columns = ["a", "b", "y", "z"]
        self.check_told((columns, kinds, checks), all_states(kinds), [(kind[0], "go", 0) for kind in kinds])
        closed = [place for place in all_states(kinds) if place not in [("k", 1), ("l", 1)]]
        fewer = kinds[:3] + [("n", [{}, {"y": -1}], [("go", 0, 1)])]
        self.check_told((columns, fewer, checks), closed, [("m", "go", 0), ("n", "go", 0)])

    def test_a_check_that_only_rises_if_two_others_are_balanced(self):
        checks = [{"a": 3, "b": -1}, {"a": -1, "b": 3}]
        kinds = [
            ("c", [{}, {"z": -1}], [("go", 0, 1)]),
            ("d", [{}, {"a": 1, "b": -1, "z": 1}], [("go", 0, 1)]),
            ("e", [{}, {"a": -1, "b": 1, "z": 1}], [("go", 0, 1)]),
            ("f", [{}, {"a": 1, "b": 1}], [("go", 0, 1)]),
        ]
        steps = [(kind[0], "go", 0) for kind in kinds]
        self.check_told((["a", "b", "z"], kinds, checks + [{"z": 1}]), all_states(kinds), steps)
        # Without f nothing lifts the first two checks, so neither d nor e can be done.
        states = [("c", 0), ("d", 0), ("e", 0)]
        self.check_told((["a", "b", "z"], kinds[:3], checks + [{"z": 1}]), states, [])

    def test_a_step_of_the_same_name_from_two_states(self):
        kinds = [("k", [{}, {"a": 1}, {"a": -1}], [("go", 1, 2), ("go", 0, 1), ("go", 2, 0)])]
        self.check_told((["a"], kinds, [{"a": 1}]), all_states(kinds), [("k", "go", 1), ("k", "go", 0), ("k", "go", 2)])
        self.check_told((["a"], kinds, [{"a": -1}]), [("k", 0)], [])

    def test_amounts_count_as_often_as_they_have_to(self):
        kinds = [("k", [{}, {"a": 1}], [("go", 0, 1)]), ("l", [{}, {"a": -100}], [("go", 0, 1)])]
        self.check_told((["a"], kinds, [{"a": 1}]), all_states(kinds), [("k", "go", 0), ("l", "go", 0)])

    def test_columns_and_kinds_stand_in_any_order(self):
        columns, kinds, checks = ladder_parts(3)
        turned = (columns[::-1], kinds[::-1], checks[::-1])
        self.check_told(turned, all_states(kinds[::-1]), [(kind[0], "go", 0) for kind in kinds[::-1]])


class CanRise(unittest.TestCase):
    def test_the_shop(self):
        for total in [{"held": 1}, {"taken": 1}, {"held": 1, "taken": -1}, {"taken": 2, "held": -1}]:
            self.assertIs(can_rise(shop(), total), True)
        for total in [{"taken": 1, "held": -1}, {"held": -1}, {"taken": -1}, {"held": 0}, {}]:
            self.assertIs(can_rise(shop(), total), False)

    def test_what_rises_only_for_a_while_rises(self):
        plan = Plan(["a"], [("k", [{}, {"a": 1}, {}], [("go", 0, 1), ("on", 1, 2)])], [])
        self.assertEqual([can_rise(plan, {"a": 1}), can_rise(plan, {"a": -1})], [True, False])

    def test_closed_states_do_not_count(self):
        plan = shop().without_steps([("hold", "hold")])
        self.assertEqual([can_rise(plan, {"held": 1}), can_rise(plan, {"taken": 1})], [False, False])

    def test_without_anything(self):
        self.assertIs(can_rise(Plan(*EMPTY), {}), False)
        self.assertIs(can_rise(Plan(["a"], [], [{"a": 1}]), {"a": 1}), False)
        self.assertIs(can_rise(Plan(["a"], [("k", [{}, {"a": 1}], [])], []), {"a": 1}), False)

    def test_factors_of_twelve_digits(self):
        most = 10**12 - 1
        self.assertIs(can_rise(shop(), {"taken": most, "held": -most}), False)
        self.assertIs(can_rise(shop(), {"taken": most, "held": 1 - most}), True)

    def test_levels(self):
        for many in range(1, 5):
            parts = ladder_parts(many)
            for column in parts[0]:
                self.assertIs(can_rise(Plan(*parts), {column: 1}), True)
                self.assertIs(can_rise(Plan(*parts), {column: -1}), False)
                self.assertIs(can_rise(Plan(parts[0], parts[1][:-1], parts[2]), {column: 1}), False)


class RunTo(Judged, unittest.TestCase):
    def test_each_state_of_the_shop(self):
        for kind, state in all_states(shop_parts()[1]):
            run = run_to(shop(), kind, state)
            self.assertIs(is_run(shop(), run), True)
            self.assertIn((kind, state), [(part[0], part[2]) for part in parts_after(shop_parts()[1], run)])

    def test_closed_states(self):
        dry = shop().without_steps([("hold", "hold")])
        self.assertEqual([run_to(dry, "take", 1), run_to(dry, "take", 2), run_to(dry, "hold", 1)], [None] * 3)
        self.assertIsNot(run_to(dry, "take", 0), None)
        lone = Plan([], [("k", [{}, {}], [])], [])
        self.assertIsNone(run_to(lone, "k", 1))

    def test_levels(self):
        for many in range(1, 5):
            columns, kinds, checks = ladder_parts(many)
            for kind in kinds:
                run = run_to(Plan(columns, kinds, checks), kind[0], 1)
                self.judge_run_to(kinds, checks, run, kind[0], 1)

    def test_steep_levels(self):
        columns, kinds, checks = ladder_parts(4, 100, -100)
        run = run_to(Plan(columns, kinds, checks), kinds[0][0], 1)
        self.judge_run_to(kinds, checks, run, kinds[0][0], 1)
        columns, kinds, checks = ladder_parts(4, 1, -100)
        run = run_to(Plan(columns, kinds, checks), kinds[0][0], 1)
        self.judge_run_to(kinds, checks, run, kinds[0][0], 1)

    def test_errors(self):
        for kind in ["no", "", "Hold", "held"]:
            for state in [0, 5, -1]:
                self.assertEqual(raised(run_to, shop(), kind, state), ("UnknownKind", kind))
        for kind, many in [("hold", 2), ("take", 3)]:
            for state in [many, many + 1, -1, -many, -many - 1, 10**60, -(10**60)]:
                self.assertEqual(raised(run_to, shop(), kind, state), ("NoState", state))
        self.assertEqual(raised(run_to, Plan(*EMPTY), "hold", 0), ("UnknownKind", "hold"))
        dry = shop().without_steps([("take", "take")])
        self.assertEqual(raised(run_to, dry, "take", 3), ("NoState", 3))


class Errors(unittest.TestCase):
    def test_unknown_columns(self):
        for column in ["no", "", "Held", "hold"]:
            for factor in [1, 0, -1]:
                self.assertEqual(raised(can_rise, shop(), {"held": 1, column: factor}), ("UnknownColumn", column))
        several = {"z": 0, "held": 1, "b": 0, "no": 1}
        self.assertEqual(raised(can_rise, shop(), several), ("UnknownColumn", "b"))
        self.assertEqual(raised(can_rise, Plan(*EMPTY), {"a": 0}), ("UnknownColumn", "a"))


class NothingIsShared(unittest.TestCase):
    def test_what_was_passed_stays_as_it_was(self):
        plan, total = shop(), {"taken": 2, "held": 0}
        before = copy.deepcopy(total)
        can_rise(plan, total)
        open_states(plan)
        open_steps(plan)
        run_to(plan, "take", 2)
        raised(can_rise, plan, {"no": 1})
        raised(run_to, plan, "no", 1)
        self.assertEqual([total, list(total)], [before, list(before)])
        self.assertEqual(plan, shop())

    def test_every_returned_list_is_new(self):
        plan, found = shop(), []
        for _ in range(2):
            found += [open_states(plan), open_steps(plan), run_to(plan, "take", 0), run_to(plan, "take", 2)]
        self.assertTrue(all_apart(*found))
        kept = copy.deepcopy(found[:4])
        for each in found:
            each.append(7)
        self.assertEqual([open_states(plan), open_steps(plan), run_to(plan, "take", 0), run_to(plan, "take", 2)], kept)

    def test_kinds_of_values(self):
        found = [open_states(shop()), open_steps(shop()), run_to(shop(), "take", 2)]
        self.assertEqual({(type(each), type(each[0])) for each in found}, {(list, tuple)})
        self.assertEqual([type(can_rise(shop(), {"held": 1})), type(can_rise(shop(), {}))], [bool, bool])

    def test_by_name(self):
        self.assertEqual(len(open_states(plan=shop())), 5)
        self.assertEqual(len(open_steps(plan=shop())), 3)
        self.assertIs(can_rise(total={"held": 1}, plan=shop()), True)
        self.assertIs(is_run(shop(), run_to(state=1, plan=shop(), kind="hold")), True)


if __name__ == "__main__":
    unittest.main()
