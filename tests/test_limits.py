"""Plans and runs at the limits of [2], and beyond them."""

import itertools
import string
import unittest

from paidinparts.plans import Plan
from paidinparts.runs import is_run, totals, values_along

from tests.tools import raised


def names(many):
    """This many names of eight letters."""
    pairs = itertools.product(string.ascii_lowercase, repeat=2)
    return ["column" + "".join(pair) for pair in itertools.islice(pairs, many)]


def large(columns, kinds, states, steps, checks, worth):
    """The arguments of a plan: so many columns, kinds, states and steps of each kind, and checks."""
    keys = names(columns)
    rows = [{}] + [{key: worth - at for key in keys} for at in range(states - 1)]
    walks = [(name, at, (at + 1) % states) for name in names(steps) for at in range(states)][:steps]
    return keys, [(name, rows, walks) for name in names(kinds)], [{key: worth for key in keys}] * checks


class Limits(unittest.TestCase):
    def check_plan(self, columns, kinds, states, steps, checks, worth):
        given = large(columns, kinds, states, steps, checks, worth)
        plan = Plan(*given)
        self.assertEqual([len(plan.columns), len(plan.kinds), len(plan.checks)], [columns, kinds, checks])
        self.assertEqual({(len(rows), len(walks)) for _, rows, walks in plan.kinds}, {(states, steps)})
        self.assertEqual(plan.checks, [[worth] * columns] * checks)
        last, total = plan.kinds[-1][0], {key: worth for key in plan.columns}
        self.assertEqual(plan.value_at(last, states - 1, total), columns * worth * (worth - states + 2))
        self.assertIs(plan == Plan(*given), True)
        self.assertIs(plan != plan.with_checks([total]), True)
        self.assertEqual(plan.with_checks([total] * 2).checks, [[worth] * columns] * (checks + 2))
        bare = plan.without_steps([(kind, step[0]) for kind, _, walks in plan.kinds for step in walks])
        self.assertEqual([walks for _, _, walks in bare.kinds], [[]] * kinds)
        self.check_runs(plan, total, columns, worth)

    def check_runs(self, plan, total, columns, worth):
        kind, first = plan.kinds[-1][0], plan.kinds[-1][2][0][0]
        amount = 10**60 - 1
        deeds = [deed for part in range(100) for deed in [("new", kind, amount), ("step", part, first)]]
        self.assertIs(is_run(plan, deeds), True)
        self.assertEqual(totals(plan, deeds), [100 * amount * worth] * columns)
        along = values_along(plan, deeds, total)
        self.assertEqual(along, [(at // 2) * amount * worth * worth * columns for at in range(201)])
        self.assertEqual(raised(totals, plan, deeds + [("step", 100, first)]), ("InvalidRun", 200))

    def test_at_the_limits_for_plans_that_are_decided(self):
        self.check_plan(6, 4, 3, 3, 4, 100)

    def test_at_the_limits(self):
        self.check_plan(12, 8, 5, 5, 8, 10**12 - 1)
        self.check_plan(12, 1, 40, 40, 8, 10**12 - 1)

    def test_beyond_the_limits(self):
        self.check_plan(40, 12, 60, 90, 20, 10**30)

    def test_long_lists_of_deeds(self):
        plan = Plan(["a"], [("k", [{}, {"a": 1}], [("go", 0, 1), ("back", 1, 0)])], [{"a": 1}])
        deeds = [("new", "k", 3)] + [("step", 0, "go"), ("step", 0, "back")] * 1500
        self.assertIs(is_run(plan, deeds), True)
        self.assertEqual(totals(plan, deeds), [0])
        self.assertEqual(values_along(plan, deeds, {"a": 1})[-3:], [0, 3, 0])
        self.assertEqual(raised(totals, plan, deeds + [("step", 0, "back")]), ("InvalidRun", 3001))

    def test_without_anything(self):
        plan = Plan([], [], [])
        self.assertEqual(plan, plan.with_checks([]).without_steps([]))
        self.assertEqual([is_run(plan, []), totals(plan, []), values_along(plan, [], {})], [True, [], [0]])


if __name__ == "__main__":
    unittest.main()
