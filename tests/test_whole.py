"""Over the whole program: equal plans answer alike however they were made, and returned runs are written by books."""

import random
import unittest

from paidinparts.books import Book, SureBook
from paidinparts.factors import least_factor
from paidinparts.least import least_bars, least_checks
from paidinparts.plans import Plan
from paidinparts.ready import payments
from paidinparts.readings import read_plan, read_run
from paidinparts.runs import is_run, totals, values_along
from paidinparts.standings import can_rise, open_states, open_steps, run_to
from paidinparts.texts import show_plan, show_run, show_sum
from paidinparts.wishes import broken, is_kept, judge_broken, judge_multipliers, multipliers, unrolled

from tests.judges import Judged, all_states, copied
from tests.test_decided_limits import full_parts
from tests.test_decided_random import some_plan, some_wish, uneven_ladder
from tests.tools import ladder_parts, raised, random_table, shop_parts


def tables(plan, rows):
    """Lists in the order of the columns as dicts."""
    return [dict(zip(plan.columns, row)) for row in rows]


def passed(plan):
    """The arguments from which a plan could be made, from what it tells of itself."""
    kinds = [(name, tables(plan, rows), steps) for name, rows, steps in plan.kinds]
    return plan.columns, kinds, tables(plan, plan.checks)


def ways(plan):
    """The same plan, made in each way that there is."""
    columns, kinds, checks = passed(plan)
    more = [(name, states, steps + [("zzz", 0, 0), ("zzzz", 0, 0)]) for name, states, steps in kinds]
    bars = [(name, word) for name, _, _ in kinds for word in ["zzz", "zzzz"]]
    return [
        plan,
        Plan(columns, kinds, checks),
        read_plan(show_plan(plan)),
        Plan(columns, kinds, []).with_checks(checks),
        Plan(columns, more, checks).without_steps(bars),
        read_plan(show_plan(Plan(columns, more, checks[:1]))).without_steps(bars).with_checks(checks[1:]),
    ]


def answers(plan, wish, other, deeds):
    """What all functions tell of a plan and some sums and deeds."""
    book, sure = Book(plan), SureBook(plan, wish)
    return [
        plan.columns, plan.kinds, plan.checks, show_plan(plan), show_sum(plan, wish),
        [plan.value_at(kind, state, wish) for kind, rows, _ in plan.kinds for state in range(len(rows))],
        is_run(plan, deeds), raised(totals, plan, deeds), raised(values_along, plan, deeds, wish),
        open_states(plan), open_steps(plan), can_rise(plan, wish),
        [run_to(plan, kind, state) for kind, rows, _ in plan.kinds for state in range(len(rows))],
        is_kept(plan, wish), multipliers(plan, wish), broken(plan, wish), least_factor(plan, wish, other),
        judge_multipliers(plan, wish, (1, [1] * len(plan.checks))), judge_broken(plan, wish, (deeds, [], 0)),
        least_checks(plan, wish, [other, wish]), least_bars(plan, wish) if len(plan.kinds) < 3 else None,
        raised(book.write, deeds), raised(sure.write, deeds), book.run, sure.run, book.balance, sure.balance,
    ]  # fmt: skip


class Alike(unittest.TestCase):
    def check_ways(self, plan, wish, other, deeds):
        found = ways(plan)
        wanted = answers(plan, wish, other, deeds)
        for same in found:
            self.assertIs(same == plan, True)
            self.assertEqual(answers(same, wish, other, deeds), wanted)
            one, two = Book(same), Book(plan)
            self.assertEqual([one == two, SureBook(same, wish) == SureBook(plan, wish)], [True, True])

    def test_the_shop(self):
        deeds = [("new", "hold", 5), ("step", 0, "hold"), ("new", "take", 3), ("step", 1, "take"), ("step", 1, "again")]
        for wish in [{"held": 1, "taken": -1}, {"held": 1, "taken": -2}, {}]:
            self.check_ways(Plan(*shop_parts()), wish, {"held": 2}, deeds)

    def test_payments(self):
        deeds = [("new", "hold", 5), ("step", 0, "ask"), ("step", 0, "hold"), ("new", "take", 3), ("step", 1, "ask")]
        for plan in [payments(), payments(numbered=False), payments(checked=False)]:
            for wish in [{"held": 1, "given": -1}, {"booked": 1, "taken": -1}]:
                self.check_ways(plan, wish, {"back": 1}, deeds)

    def test_plans_without_columns_kinds_steps_or_checks(self):
        for given in [([], [], []), (["a"], [], []), ([], [("k", [{}], [])], [{}]), (["a"], [("k", [{}], [])], [])]:
            self.check_ways(Plan(*given), {}, {}, [("new", "k", 1)])

    def test_random_plans(self):
        chance = random.Random(51)
        for _ in range(25):
            columns, kinds, checks = some_plan(chance)
            wish, other = some_wish(chance, columns, checks), random_table(chance, columns, -1, 3)
            self.check_ways(Plan(columns, kinds[:2], checks[:2]), wish, other, [("new", "hold", 2), ("step", 0, "go")])

    def test_plans_that_differ(self):
        plan = payments()
        others = [
            payments(checked=False), payments(numbered=False), plan.with_checks([{}]),
            plan.without_steps([("take", "hear")]), read_plan("columns"),
        ]  # fmt: skip
        for other in others:
            self.assertEqual([plan == other, plan != other, Book(plan) == Book(other)], [False, True, False])
            self.assertNotEqual(show_plan(plan), show_plan(other))


class Written(Judged, unittest.TestCase):
    def check_written(self, plan, run):
        """Books do a returned run, deed by deed and at once, and it is shown and read."""
        book, other = Book(plan), Book(read_plan(show_plan(plan)))
        self.assertEqual(book.write(run), totals(plan, run))
        for deed in run:
            (other.new if deed[0] == "new" else other)(*deed[1:])
        self.assertEqual([book == other, book.run, len(other)], [True, run, len(run)])
        self.assertEqual(read_run(show_run(run)), run)

    def check_runs(self, plan, wishes):
        for kind, state in all_states(plan.kinds):
            run = run_to(plan, kind, state)
            if run is not None:
                self.check_written(plan, run)
        for wish in wishes:
            told = broken(plan, wish)
            if told is not None and told[2] * len(told[1]) <= 900:
                self.assertEqual(unrolled(told), copied(told))
                self.check_broken(plan, wish, unrolled(told))

    def check_broken(self, plan, wish, run):
        """A book writes the run of a break; a sure one stops where the wish would be broken first."""
        self.check_written(plan, run)
        along = values_along(plan, run, wish)
        self.assertLess(along[-1], 0)
        first = min(value for value in enumerate(along) if value[1] < 0)
        sure = SureBook(plan, wish)
        self.assertEqual(raised(sure.write, run), ("WishBroken", first[1]))
        self.assertEqual([len(sure), sure == SureBook(plan, wish)], [0, True])
        sure.write(run[: first[0] - 1])
        self.assertEqual(raised(sure, *run[first[0] - 1][1:]), ("WishBroken", first[1]))
        self.assertNotIn(run[first[0] - 1][2], sure.able(run[first[0] - 1][1]))

    def test_the_shop_and_payments(self):
        wishes = [{"held": 1, "taken": -2}, {"held": -1}, {"taken": 1, "held": -1}, {"held": 1, "taken": -1}]
        for plan in [Plan(*shop_parts()), payments(), payments(numbered=False), payments(checked=False)]:
            self.check_runs(plan, wishes)
        self.check_runs(payments(), [{"booked": 1, "taken": -1}, {"back": -1}])

    def test_random_plans(self):
        chance = random.Random(52)
        for _ in range(60):
            parts = some_plan(chance)
            wishes = [some_wish(chance, parts[0], parts[2]) for _ in range(3)]
            self.check_runs(Plan(*parts), wishes)

    def test_ladders(self):
        chance = random.Random(53)
        for parts in [ladder_parts(4), ladder_parts(4, 1, -100)] + [uneven_ladder(chance) for _ in range(20)]:
            self.check_runs(Plan(*parts), [{column: -1} for column in parts[0]])

    def test_at_the_limits(self):
        columns, kinds, checks = full_parts()
        self.check_runs(Plan(columns, kinds, checks), [{"f": -1}, {"a": -1}, {"d": -1, "c": 1}])

    def test_wishes_that_are_kept_let_every_run_through(self):
        plan = payments(numbered=False)
        for wish in [{"held": 1, "given": -1}, {"taken": 1, "booked": -1}]:
            sure = SureBook(plan, wish)
            for kind, state in all_states(plan.kinds):
                run = run_to(plan, kind, state)
                self.assertEqual(sure.write(run), totals(plan, run))
                while len(sure) > 0:
                    sure.undo()


if __name__ == "__main__":
    unittest.main()
