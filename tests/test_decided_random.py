"""[7], [8] and [9] for many random plans: each answer is judged by itself, and by random runs."""

import random
import unittest

from paidinparts.plans import Plan
from paidinparts.runs import is_run, totals
from paidinparts.standings import open_states, open_steps
from paidinparts.wishes import is_kept, judge_multipliers

from tests.judges import Judged, are_multipliers, combined
from tests.tools import parts_after, random_parts, random_table, value_at_totals


def uneven_ladder(chance):
    """A plan in which kinds lift one column with another one, in some order, with some more states and steps."""
    columns = ["a", "b", "c", "d", "e"][: chance.randint(1, 5)]
    kinds = []
    for at, column in enumerate(columns[:4]):
        row = {column: chance.randint(1, 3)}
        if at > 0:
            row[columns[at - 1]] = -chance.randint(1, 3)
        if chance.random() < 0.3:
            row[chance.choice(columns)] = chance.randint(-2, 2)
        states, steps = [{}, row], [("go", 0, 1)]
        if chance.random() < 0.4:
            states.append(random_table(chance, columns, -2, 2))
            steps.append((chance.choice(["go", "on"]), 1, 2))
        if chance.random() < 0.3:
            steps.append(("back", 1, 0))
        kinds.append(("kind" + column, states, steps))
    checks = [{column: 1} for column in columns[:4]]
    if chance.random() < 0.3:
        checks[0] = random_table(chance, columns, -2, 2)
    chance.shuffle(kinds)
    chance.shuffle(checks)
    return columns, kinds, checks


def some_plan(chance):
    """The arguments of some plan with at most four checks."""
    if chance.random() < 0.5:
        return uneven_ladder(chance)
    columns, kinds, checks = random_parts(chance)
    return columns, kinds, checks + [random_table(chance, columns, -1, 2) for _ in range(chance.randint(0, 2))]


def some_wish(chance, columns, checks):
    """A wish; often one near to what the checks add up to."""
    wish = random_table(chance, columns, -3, 4)
    if chance.random() < 0.5:
        return wish
    for check in checks:
        wish = combined(chance.choice([0, 1]), wish, chance.randint(0, 3), check)
    return wish


def some_run(chance, plan, kinds):
    """A random run, and its last step as (kind, name, from), or None."""
    deeds, last = [], None
    for _ in range(chance.randint(0, 40)):
        parts = parts_after(kinds, deeds)
        if kinds and (not parts or chance.random() < 0.3):
            deeds.append(("new", chance.choice(kinds)[0], chance.choice([1, 2, 5, 50])))
            last = None
        elif parts:
            number = chance.randrange(len(parts))
            name = chance.choice(["go", "on", "back", "hear"])
            if is_run(plan, deeds + [("step", number, name)]):
                last = (parts[number][0], name, parts[number][2])
                deeds.append(("step", number, name))
    return deeds, last


class Random(Judged, unittest.TestCase):
    def test_standings_and_wishes(self):
        chance = random.Random(71)
        seen = {True: 0, False: 0}
        for _ in range(220):
            parts = some_plan(chance)
            self.judge_standing(parts)
            for _ in range(3):
                seen[self.judge_wish(parts, some_wish(chance, parts[0], parts[2]))] += 1
        self.assertGreater(min(seen.values()), 100)

    def test_factors(self):
        chance = random.Random(72)
        seen = {True: 0, False: 0, None: 0}
        for _ in range(250):
            parts = some_plan(chance)
            other = random_table(chance, parts[0], chance.choice([-4, 0]), 4)
            found = self.judge_factor(parts, random_table(chance, parts[0], -4, 4), other)
            seen[found and found[0] > 0] += 1
        self.assertGreater(min(seen.values()), 15)

    def test_random_runs_stay_within_what_is_told(self):
        chance = random.Random(73)
        long = 0
        for _ in range(120):
            columns, kinds, checks = some_plan(chance)
            plan = Plan(columns, kinds, checks)
            states, steps = open_states(plan), open_steps(plan)
            wishes = [some_wish(chance, columns, checks) for _ in range(4)] + checks
            kept = [wish for wish in wishes if is_kept(plan, wish)]
            self.assertEqual(kept[len(kept) - len(checks) :], checks)
            for _ in range(4):
                deeds, last = some_run(chance, plan, kinds)
                long += len(deeds) > 12
                for kind, _, state in parts_after(kinds, deeds):
                    self.assertIn((kind, state), states)
                if last is not None:
                    self.assertIn(last, steps)
                for wish in kept:
                    self.assertGreaterEqual(value_at_totals(columns, totals(plan, deeds), wish), 0)
        self.assertGreater(long, 40)

    def test_multipliers_that_are_told(self):
        chance = random.Random(74)
        seen = {True: 0, False: 0}
        for _ in range(200):
            columns, kinds, checks = some_plan(chance)
            plan = Plan(columns, kinds, checks)
            states = open_states(plan)
            for _ in range(5):
                wish = some_wish(chance, columns, checks)
                told = (chance.randint(0, 3), [chance.randint(-1, 3) for _ in checks])
                right = are_multipliers(kinds, checks, states, wish, told)
                self.assertIs(judge_multipliers(plan, wish, told), right)
                seen[right] += 1
        self.assertGreater(min(seen.values()), 50)

    def test_more_checks_and_fewer_steps_keep_what_is_kept(self):
        chance = random.Random(75)
        seen = 0
        for _ in range(150):
            columns, kinds, checks = some_plan(chance)
            plan = Plan(columns, kinds, checks)
            wish = some_wish(chance, columns, checks)
            if is_kept(plan, wish):
                seen += 1
                self.assertIs(is_kept(plan.with_checks([random_table(chance, columns, -2, 2)]), wish), True)
                bars = [(kind, step[0]) for kind, _, steps in kinds for step in steps if chance.random() < 0.3]
                self.assertIs(is_kept(plan.without_steps(bars), wish), True)
        self.assertGreater(seen, 60)


if __name__ == "__main__":
    unittest.main()
