"""ready.py: the plans of payments."""

import inspect
import unittest

from paidinparts.factors import least_factor
from paidinparts.least import least_bars, least_checks
from paidinparts.plans import Plan
from paidinparts.ready import payments
from paidinparts.runs import is_run
from paidinparts.standings import can_rise, open_states, open_steps, run_to
from paidinparts.wishes import broken, is_kept, judge_broken, judge_multipliers, multipliers

from tests.tools import all_apart, parts_after

COLUMNS = ["held", "taken", "given", "booked", "back"]
HOLD = ("hold", [[0, 0, 0, 0, 0], [0, 0, 0, 0, 0], [1, 0, 0, 0, 0]], [("ask", 0, 1), ("hold", 1, 2)])
TAKE = (
    "take",
    [[0, 0, 0, 0, 0], [0, 0, 0, 0, 0], [0, 1, 0, 0, 0], [0, 1, 0, 1, 0]],
    [("ask", 0, 1), ("take", 1, 2), ("hear", 2, 3)],
)
GIVE = (
    "give",
    [[0, 0, 0, 0, 0], [0, 0, 0, 0, 0], [0, 0, 1, 0, 0], [0, 0, 1, 0, 1]],
    [("ask", 0, 1), ("give", 1, 2), ("hear", 2, 3)],
)
TWICE = ("take", TAKE[1] + [[0, 2, 0, 1, 0]], TAKE[2] + [("again", 3, 4)])
GIVEN_TWICE = ("give", GIVE[1] + [[0, 0, 2, 0, 1]], GIVE[2] + [("again", 3, 4)])
CHECKS = [[1, -1, 0, 0, 0], [0, 1, -1, 0, 0]]
BOTH = [False, True]


class Payments(unittest.TestCase):
    def check_plan(self, plan, kinds, checks):
        self.assertIsInstance(plan, Plan)
        self.assertEqual([plan.columns, plan.kinds, plan.checks], [COLUMNS, kinds, checks])

    def test_each_of_them(self):
        self.check_plan(payments(numbered=True, checked=True), [HOLD, TAKE, GIVE], CHECKS)
        self.check_plan(payments(numbered=True, checked=False), [HOLD, TAKE, GIVE], [])
        self.check_plan(payments(numbered=False, checked=True), [HOLD, TWICE, GIVEN_TWICE], CHECKS)
        self.check_plan(payments(numbered=False, checked=False), [HOLD, TWICE, GIVEN_TWICE], [])

    def test_what_is_not_said_is_true(self):
        self.assertEqual(payments(), payments(numbered=True, checked=True))
        self.assertEqual(payments(numbered=False), payments(numbered=False, checked=True))
        self.assertEqual(payments(checked=False), payments(numbered=True, checked=False))
        self.assertEqual(payments(checked=False, numbered=False), payments(numbered=False, checked=False))

    def test_by_name_only(self):
        kinds = {parameter.kind for parameter in inspect.signature(payments).parameters.values()}
        self.assertEqual(kinds, {inspect.Parameter.KEYWORD_ONLY})
        self.assertEqual(list(inspect.signature(payments).parameters), ["numbered", "checked"])
        for given in [(True,), (False, True)]:
            with self.assertRaises(TypeError):
                payments(*given)

    def test_each_plan_is_a_new_one(self):
        one, other = payments(numbered=False), payments(numbered=False)
        self.assertIsNot(one, other)
        self.assertTrue(all_apart(one.kinds, one.checks, one.columns, other.kinds, other.checks, other.columns))

    def test_what_can_be_done(self):
        plan = payments()
        sizes = [("hold", 3), ("take", 4), ("give", 4)]
        self.assertEqual(open_states(plan), [(kind, state) for kind, many in sizes for state in range(many)])
        self.assertEqual(len(open_steps(plan)), 8)
        self.assertEqual(len(open_steps(payments(numbered=False))), 10)
        self.assertEqual(open_steps(payments(numbered=False))[-1], ("give", "again", 3))

    def test_what_is_kept(self):
        never_more = [{"held": 1, "taken": -1}, {"taken": 1, "given": -1}, {"held": 1, "given": -1}]
        never_ahead = [{"taken": 1, "booked": -1}, {"given": 1, "back": -1}]
        for numbered in BOTH:
            for wish in never_more + never_ahead:
                self.assertIs(is_kept(payments(numbered=numbered), wish), True)
                self.assertIs(is_kept(payments(numbered=numbered, checked=False), wish), wish in never_ahead)
            self.assertIs(is_kept(payments(numbered=numbered), {"booked": 1, "taken": -1}), False)
            self.assertIs(is_kept(payments(numbered=numbered), {"booked": 2, "taken": -1}), False)

    def test_what_shows_it(self):
        for numbered in BOTH:
            for checked in BOTH:
                plan = payments(numbered=numbered, checked=checked)
                near = [{"held": 3, "back": -2}, {"taken": 1, "back": -1}]
                for wish in near + [{"held": -1}, {"booked": 1, "given": -1}]:
                    shown, told = multipliers(plan, wish), broken(plan, wish)
                    self.assertEqual((shown is None, told is None), (not is_kept(plan, wish), is_kept(plan, wish)))
                    if shown is not None:
                        self.assertIs(judge_multipliers(plan, wish, shown), True)
                    else:
                        self.assertIs(judge_broken(plan, wish, told), True)

    def test_factors(self):
        for numbered in BOTH:
            plan = payments(numbered=numbered)
            self.assertEqual(least_factor(plan, {"back": 1}, {"held": 1}), (1, 1))
            self.assertEqual(least_factor(plan, {"taken": 1, "given": 1}, {"held": 1}), (2, 1))
            self.assertIsNone(least_factor(plan, {"taken": 1}, {"booked": 1}))
        self.assertIsNone(least_factor(payments(checked=False), {"back": 1}, {"held": 1}))

    def test_least_sets(self):
        free = payments(checked=False)
        offered = [{"taken": 1, "given": -1}, {"held": 1, "taken": -1}, {"held": 1, "given": -1}]
        self.assertEqual(least_checks(free, {"held": 1, "given": -1}, offered), [[2], [0, 1]])
        self.assertEqual(
            least_bars(payments(), {"booked": 1, "taken": -1}),
            [[("hold", "ask")], [("hold", "hold")], [("take", "ask")], [("take", "take")]],
        )

    def test_ways(self):
        for numbered, last in [(True, 3), (False, 4)]:
            plan = payments(numbered=numbered)
            run = run_to(plan, "give", last)
            self.assertIs(is_run(plan, run), True)
            self.assertIn(["give", last], [[kind, state] for kind, _, state in parts_after(plan.kinds, run)])
        self.assertIs(can_rise(payments(), {"given": 1, "held": -1}), False)
        self.assertIs(can_rise(payments(checked=False), {"given": 1, "held": -1}), True)


if __name__ == "__main__":
    unittest.main()
