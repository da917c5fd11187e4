"""[2] for standings.py, wishes.py, factors.py and least.py: plans at the limits and beyond, great numbers, and time."""

import time
import unittest

from paidinparts.factors import least_factor
from paidinparts.least import least_bars, least_checks
from paidinparts.plans import Plan
from paidinparts.standings import can_rise, open_states, open_steps, run_to
from paidinparts.wishes import broken, is_kept, judge_broken, judge_multipliers, multipliers, unrolled

from tests.judges import Judged, all_states, is_break
from tests.tools import ladder_parts, one_each

# Far more than any call takes, and far less than one that looks at each subset of states, or at each copy of a round.
SECONDS = 10
MOST = 10**12 - 1


def full_parts(worth=100, offset=0):
    """Six columns, four kinds with fourteen states and twelve steps of eight names, four checks: a ladder of levels."""
    columns = ["a", "b", "c", "d", "e", "f"]
    kinds = []
    for at, many in enumerate([4, 4, 3, 3]):
        row = {columns[at]: worth - offset * at, "e": (-1) ** at, "f": worth}
        if at < 3:
            row[columns[at + 1]] = -worth
        states = [{}] + [{**row, "e": row["e"] * state, "f": worth - state} for state in range(1, many)]
        steps = [("do", 0, 1), ("on", 1, 2)] + [("on" if many > 3 else "do", many - 1, 1)]
        if many > 3:
            steps[1] = ("on", 1, 3)
            steps[2] = ("do", 3, 2)
        kinds.append(("kind" + columns[at], states, steps))
    return columns, kinds, [{column: worth - offset, "f": at} for at, column in enumerate(columns[:4])]


class Limits(Judged, unittest.TestCase):
    def setUp(self):
        self.begun = time.perf_counter()

    def tearDown(self):
        self.assertLess(time.perf_counter() - self.begun, SECONDS)

    def plans(self):
        """Plans at the limits: many levels, and few."""
        turned = full_parts(97, 3)
        return [full_parts(), turned, full_parts(-100), (turned[0], turned[1][::-1], turned[2][::-1])]

    def test_sizes(self):
        for columns, kinds, checks in self.plans():
            sizes = [len(columns), len(kinds), len(checks), len(all_states(kinds)), sum(len(kind[2]) for kind in kinds)]
            self.assertEqual(sizes, [6, 4, 4, 14, 12])
            self.assertEqual(len({(kind, step[0]) for kind, _, steps in kinds for step in steps}), 8)

    def test_standings(self):
        for parts in self.plans():
            self.judge_standing(parts)
        plan = Plan(*full_parts())
        self.assertEqual([len(open_states(plan)), len(open_steps(plan))], [14, 12])

    def test_wishes(self):
        for parts in self.plans():
            columns = parts[0]
            wishes = [{"a": MOST, "f": -1}, {"f": MOST, "d": -MOST}, {"e": 1 - MOST, "a": 1}]
            for wish in wishes + [dict.fromkeys(columns, MOST)]:
                self.judge_wish(parts, wish)
                self.judge_wish(parts, {column: -factor for column, factor in wish.items()})

    def test_factors(self):
        sums = [({"a": MOST}, {"f": MOST - 1}), ({"e": 1}, {"f": MOST}), ({"f": 1, "e": -MOST}, {"a": 1, "d": MOST})]
        for parts in self.plans():
            for one, other in sums:
                self.judge_factor(parts, one, other)

    def test_least_sets(self):
        for columns, kinds, checks in self.plans():
            for wish in [{"f": MOST, "a": -1}, {"a": -1}, {"d": MOST, "c": 1 - MOST}, {"f": -1}]:
                plan = Plan(columns, kinds, checks)
                for bars in least_bars(plan, wish):
                    self.assertIs(is_kept(plan.without_steps(bars), wish), True)
                for chosen in least_checks(Plan(columns, kinds, []), wish, checks):
                    self.assertIs(is_kept(Plan(columns, kinds, [checks[at] for at in chosen]), wish), True)

    def test_bars_that_are_all_needed(self):
        states, steps = [{}, {"a": -1}, {"a": -1}, {"a": 1}], [("x", 0, 1), ("y", 0, 2), ("x", 3, 0)]
        kinds = [(name, states, steps) for name in "klmn"]
        sets = least_bars(Plan(["a"], kinds, []), {"a": 1})
        self.assertEqual(sets, [[(name, step) for name in "klmn" for step in "xy"]])

    def test_great_times(self):
        parts = ladder_parts(4, 1, -100)
        plan = Plan(*parts)
        wish = {"a": -1, "b": MOST, "c": MOST, "d": MOST}
        opening, again, times = broken(plan, wish)
        self.assertGreater(times, 10**15)
        self.assertTrue(is_break(parts[1], parts[2], wish, (opening, again, times)))
        for many in [times, times + 1, 10**200 - 1]:
            self.assertIs(judge_broken(plan, wish, (opening, again, many)), True)
        self.assertIs(judge_broken(plan, wish, (opening, again, -many)), False)

    def test_great_amounts_in_long_lists(self):
        parts = full_parts()
        plan = Plan(*parts)
        amount = 10**60 - 1
        opening = [deed for part in range(100) for deed in [("new", "kindd", amount), ("step", part, "do")]]
        lap = [deed for part in range(100) for deed in [("new", "kindd", amount - part), ("step", part, "do")]]
        for times in [1, 10**200 - 1]:
            told = (opening, lap, times)
            self.assertIs(judge_broken(plan, {"f": -MOST}, told), True)
            self.assertIs(judge_broken(plan, {"f": MOST}, told), False)
        self.assertEqual(len(unrolled((opening, lap, 4))), 1000)
        self.assertEqual(unrolled((opening, [], 10**200 - 1)), opening)

    def test_great_multipliers(self):
        plan = Plan(["a", "b"], one_each("ab"), [{"a": 1, "b": -1}])
        great = 10**60 - 1
        wish = {"a": MOST, "b": -MOST}
        self.assertIs(judge_multipliers(plan, wish, (great, [great * MOST])), True)
        self.assertIs(judge_multipliers(plan, wish, (great, [great * MOST - 1])), False)
        self.assertEqual(multipliers(plan, wish), (1, [MOST]))

    def test_beyond_the_limits(self):
        columns = ["c" + letter for letter in "abcdefghijkl"]
        kinds = []
        for at, column in enumerate(columns):
            row = {column: 1000, "ca": -1} if at else {"ca": 10**12}
            walks = [("go", 0, 1), ("on", 1, 2), ("by", 2, 3), ("back", 3, 0)]
            kinds.append(("k" + column, [{}, row, {column: 1}, {}], walks))
        checks = [{column: 10**12} for column in columns[:8]]
        parts = (columns, kinds, checks)
        self.judge_standing(parts)
        self.assertTrue(self.judge_wish(parts, {column: 10**40 for column in columns}))
        self.assertFalse(self.judge_wish(parts, {"ca": 10**40, "cl": -1}))
        self.assertEqual(self.judge_factor(parts, {"cl": 3 * 10**30}, {"cl": 2 * 10**30}), (3, 2))
        plan = Plan(*parts)
        offered = [{"cl": 1}, {"cl": -1}, {"ck": 1, "cl": -1}, {}, {"ca": 1}]
        self.assertEqual(least_checks(plan, {"cl": -1}, offered), [[1]])
        few = Plan(columns, kinds[:3], checks)
        self.assertEqual(least_bars(few, {"cc": -1}), [[("kcc", "go")], [("kca", "go")]][::-1])

    def test_a_long_way_through_one_kind(self):
        states = [{}] + [{"a": at} for at in range(1, 150)]
        plan = Plan(["a"], [("k", states, [("go", at, at + 1) for at in range(149)])], [{"a": 1}])
        self.assertEqual([len(open_states(plan)), len(open_steps(plan)), len(run_to(plan, "k", 149))], [150, 149, 150])
        self.assertEqual([can_rise(plan, {"a": 1}), is_kept(plan, {"a": 1})], [True, True])
        self.assertEqual(least_factor(plan, {"a": 6}, {"a": 4}), (3, 2))


if __name__ == "__main__":
    unittest.main()
