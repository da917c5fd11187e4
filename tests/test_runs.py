"""runs.py [5], [6] and the first sentence of [9]."""

import copy
import random
import unittest

from paidinparts.plans import Plan
from paidinparts.runs import is_run, totals, values_along

from tests.tools import (
    all_apart, first_wrong, parts_after, raised, random_deed, random_parts, random_table, shop, totals_at,
    value_at_totals,
)  # fmt: skip

# What the shop may do: hold 5, and take 2 of it twice.
RUN = [("new", "hold", 5), ("step", 0, "hold"), ("new", "take", 2), ("step", 1, "take"), ("step", 1, "again")]
ALONG = [[0, 0], [0, 0], [5, 0], [5, 0], [5, 2], [5, 4]]


def errors_of(plan, deeds):
    """What is_run returns, and the errors of the other two."""
    return [is_run(plan, deeds), raised(totals, plan, deeds), raised(values_along, plan, deeds, {})]


class Runs(unittest.TestCase):
    def test_without_deeds(self):
        self.assertIs(is_run(shop(), []), True)
        self.assertEqual([totals(shop(), []), values_along(shop(), [], {"held": 1})], [[0, 0], [0]])
        empty = Plan([], [], [])
        self.assertEqual([is_run(empty, []), totals(empty, []), values_along(empty, [], {})], [True, [], [0]])

    def test_each_beginning_of_a_run(self):
        for many in range(len(RUN) + 1):
            deeds = RUN[:many]
            self.assertIs(is_run(shop(), deeds), True)
            self.assertEqual(totals(shop(), deeds), ALONG[many])
            self.assertEqual(values_along(shop(), deeds, {"held": 1, "taken": -1}), [0, 0, 5, 5, 3, 1][: many + 1])

    def test_values_of_several_sums(self):
        self.assertEqual(values_along(shop(), RUN, {"held": 1}), [0, 0, 5, 5, 5, 5])
        self.assertEqual(values_along(shop(), RUN, {"taken": -3}), [0, 0, 0, 0, -6, -12])
        self.assertEqual(values_along(shop(), RUN, {"taken": 100, "held": 1}), [0, 0, 5, 5, 205, 405])
        self.assertEqual(values_along(shop(), RUN, {}), [0] * 6)
        self.assertEqual(values_along(shop(), RUN, {"held": 0, "taken": 0}), [0] * 6)

    def test_a_new_part_counts_nothing_whatever_its_amount_is(self):
        self.assertEqual(totals(shop(), [("new", "take", 10**59), ("new", "hold", 1)]), [0, 0])

    def test_a_column_may_fall_again_and_below_zero(self):
        plan = Plan(["a", "b"], [("k", [{}, {"a": 3, "b": -2}], [("go", 0, 1), ("go", 1, 0), ("stay", 1, 1)])], [])
        deeds = [("new", "k", 2), ("step", 0, "go"), ("step", 0, "stay"), ("step", 0, "go"), ("step", 0, "go")]
        self.assertEqual(values_along(plan, deeds, {"a": 1}), [0, 0, 6, 6, 0, 6])
        self.assertEqual(values_along(plan, deeds, {"b": 1}), [0, 0, -4, -4, 0, -4])
        self.assertEqual([totals(plan, deeds[:4]), totals(plan, deeds)], [[0, 0], [6, -4]])

    def test_parts_of_several_kinds_side_by_side(self):
        deeds = [("new", "take", 3), ("new", "hold", 4), ("new", "hold", 1), ("new", "take", 1)]
        deeds += [("step", 2, "hold"), ("step", 3, "take"), ("step", 1, "hold"), ("step", 0, "take")]
        self.assertEqual(values_along(shop(), deeds, {"held": 10, "taken": 1}), [0, 0, 0, 0, 0, 10, 11, 51, 54])
        self.assertEqual(totals(shop(), deeds), [5, 4])

    def test_columns_stand_in_their_order(self):
        plan = Plan(["z", "a"], [("k", [{}, {"a": 1, "z": 2}], [("go", 0, 1)])], [])
        self.assertEqual(totals(plan, [("new", "k", 5), ("step", 0, "go")]), [10, 5])

    def test_without_columns(self):
        plan = Plan([], [("k", [{}, {}], [("go", 0, 1)])], [{}])
        deeds = [("new", "k", 5), ("step", 0, "go")]
        self.assertEqual([is_run(plan, deeds), totals(plan, deeds), values_along(plan, deeds, {})], [True, [], [0] * 3])

    def test_by_name(self):
        self.assertIs(is_run(deeds=RUN, plan=shop()), True)
        self.assertEqual(totals(run=RUN, plan=shop()), [5, 4])
        self.assertEqual(values_along(total={"held": 1}, run=RUN[:2], plan=shop()), [0, 0, 5])

    def test_amounts_of_sixty_digits(self):
        most = 10**60 - 1
        deeds = [("new", "hold", most), ("step", 0, "hold"), ("new", "take", most), ("step", 1, "take")]
        self.assertEqual(totals(shop(), deeds), [most, most])
        self.assertEqual(values_along(shop(), deeds, {"held": 1, "taken": -1}), [0, 0, most, most, 0])
        self.assertEqual(errors_of(shop(), deeds + [("step", 1, "again")])[1], ("InvalidRun", 4))
        self.assertEqual(values_along(shop(), deeds, {"taken": 10**12 - 1})[-1], most * (10**12 - 1))
        short = [("new", "hold", most - 1)] + deeds[1:]
        self.assertEqual(errors_of(shop(), short), [False, ("InvalidRun", 3), ("InvalidRun", 3)])

    def test_amounts_beyond_sixty_digits(self):
        deeds = [("new", "hold", 10**300), ("step", 0, "hold")]
        self.assertEqual(totals(shop(), deeds), [10**300, 0])


class NoRuns(unittest.TestCase):
    def check_wrong(self, deed, before=(), plan=None):
        """A deed that cannot be done behind others: with it, and with more behind it, there is no run."""
        plan = plan or shop()
        before = list(before)
        at = len(before)
        self.assertIs(is_run(plan, before), True)
        for behind in [[], [("new", "hold", 1)], [("new", "no", 1)], [("step", 9, "no")] * 2]:
            deeds = before + [deed] + behind
            with self.subTest(deeds=deeds):
                self.assertEqual(errors_of(plan, deeds), [False, ("InvalidRun", at), ("InvalidRun", at)])
                self.assertIs(is_run(plan, deeds), False)

    def test_strange_kinds(self):
        for kind in ["no", "", "Hold", "held", "again", "hold ", "new", "step"]:
            self.check_wrong(("new", kind, 1))
            self.check_wrong(("new", kind, 1), RUN)
        self.check_wrong(("new", "hold", 1), plan=Plan(["hold"], [], []))

    def test_amounts_below_one(self):
        for amount in [0, -1, -5, -(10**60)]:
            self.check_wrong(("new", "hold", amount))
            self.check_wrong(("new", "take", amount), RUN)
        self.assertIs(is_run(shop(), [("new", "hold", 1)]), True)

    def test_parts_that_were_not_made_yet_or_are_below_zero(self):
        for part in [0, 1, -1, -2, 10**60, -(10**60)]:
            self.check_wrong(("step", part, "hold"))
        holds = [("new", "hold", 1), ("new", "hold", 1)]
        for part in [2, 3, -1, -2, -3]:
            self.check_wrong(("step", part, "hold"), holds)
        self.assertEqual(errors_of(shop(), [("step", 0, "hold"), ("new", "hold", 1)])[1], ("InvalidRun", 0))

    def test_steps_that_the_state_does_not_have(self):
        for name in ["no", "", "Hold", "take", "again", "held", "new"]:
            self.check_wrong(("step", 0, name), [("new", "hold", 1)])
        self.check_wrong(("step", 0, "hold"), RUN[:2])
        self.check_wrong(("step", 1, "again"), RUN[:3])
        self.check_wrong(("step", 1, "take"), RUN[:4])
        self.check_wrong(("step", 1, "again"), RUN)

    def test_steps_that_a_check_refuses(self):
        self.check_wrong(("step", 0, "take"), [("new", "take", 1)])
        self.check_wrong(("step", 1, "again"), [("new", "hold", 5), ("step", 0, "hold"), ("new", "take", 3)] + RUN[3:4])
        self.check_wrong(("step", 2, "take"), RUN + [("new", "take", 2)])
        self.assertIs(is_run(shop(), RUN + [("new", "take", 1), ("step", 2, "take")]), True)

    def test_a_value_of_zero_is_enough_and_one_below_is_not(self):
        up, down = ("up", [{}, {"a": 1}], [("go", 0, 1)]), ("down", [{}, {"a": -1}], [("go", 0, 1)])
        plan = Plan(["a"], [up, down], [{"a": 1}])
        before = [("new", "up", 3), ("step", 0, "go"), ("new", "down", 3), ("new", "down", 4)]
        self.assertIs(is_run(plan, before + [("step", 1, "go")]), True)
        self.check_wrong(("step", 2, "go"), before, plan)

    def test_every_check_may_refuse(self):
        columns, kinds = ["a", "b"], [("k", [{}, {"a": -1}, {"b": -1}], [("a", 0, 1), ("b", 0, 2)])]
        for checks, names in [([{"a": 1}, {}], ["a"]), ([{}, {"b": 1}], ["b"]), ([{"a": 1}, {"b": 1}], ["a", "b"])]:
            plan = Plan(columns, kinds, checks)
            for name in ["a", "b"]:
                deeds = [("new", "k", 1), ("step", 0, name)]
                self.assertIs(is_run(plan, deeds), name not in names)

    def test_a_step_back_may_be_refused_too(self):
        plan = Plan(["a"], [("k", [{}, {"a": 1}], [("go", 0, 1), ("back", 1, 0)])], [{"a": 1}])
        minus = plan.with_checks([{"a": -1}])
        deeds = [("new", "k", 1), ("step", 0, "go"), ("step", 0, "back")]
        self.assertEqual(totals(plan, deeds), [0])
        self.assertEqual(errors_of(minus, deeds)[1], ("InvalidRun", 1))
        up, down = ("k", [{}, {"a": 1}, {}], [("go", 0, 1), ("back", 1, 2)]), ("l", [{}, {"a": -1}], [("go", 0, 1)])
        lend = Plan(["a"], [up, down], [{"a": 1}])
        taken = [("new", "k", 2), ("step", 0, "go"), ("new", "l", 1), ("step", 1, "go")]
        self.check_wrong(("step", 0, "back"), taken, lend)

    def test_only_the_value_after_the_whole_step_counts(self):
        plan = Plan(["a", "b"], [("k", [{}, {"a": -1, "b": 1}], [("go", 0, 1)])], [{"a": 1, "b": 1}])
        self.assertIs(is_run(plan, [("new", "k", 9), ("step", 0, "go")]), True)

    def test_the_amount_counts_and_the_earlier_state(self):
        plan = Plan(["a"], [("k", [{}, {"a": 2}, {"a": -1}], [("go", 0, 1), ("go", 1, 2)])], [{"a": 1}])
        deeds = [("new", "k", 4), ("step", 0, "go"), ("new", "k", 5), ("step", 1, "go"), ("step", 0, "go")]
        self.assertEqual(values_along(plan, deeds, {"a": 1}), [0, 0, 8, 8, 18, 6])
        self.check_wrong(("step", 1, "go"), deeds, plan)

    def test_the_least_index(self):
        deeds = RUN + [("new", "no", 1), ("step", 0, "hold"), ("new", "hold", 0)]
        self.assertEqual(errors_of(shop(), deeds), [False, ("InvalidRun", 5), ("InvalidRun", 5)])
        self.assertEqual(errors_of(shop(), deeds[6:]), [False, ("InvalidRun", 0), ("InvalidRun", 0)])

    def test_what_is_no_run_without_a_check_may_be_one_with_fewer_checks(self):
        free = Plan(shop().columns, [("take", [{}, {"taken": 1}], [("take", 0, 1)])], [])
        deeds = [("new", "take", 1), ("step", 0, "take")]
        self.assertEqual([is_run(free, deeds), totals(free, deeds)], [True, [0, 1]])
        self.assertIs(is_run(free.with_checks([{"held": 1, "taken": -1}]), deeds), False)

    def test_barred_steps_are_not_there(self):
        self.assertEqual(errors_of(shop().without_steps([("take", "again")]), RUN)[1], ("InvalidRun", 4))


class Errors(unittest.TestCase):
    def test_unknown_columns(self):
        for column in ["no", "", "Held", "hold"]:
            for factor in [1, 0]:
                self.assertEqual(raised(values_along, shop(), RUN, {column: factor}), ("UnknownColumn", column))
                self.assertEqual(raised(values_along, shop(), [], {column: factor}), ("UnknownColumn", column))
        several = {"z": 0, "held": 1, "b": 0, "no": 1}
        self.assertEqual(raised(values_along, shop(), RUN, several), ("UnknownColumn", "b"))

    def test_invalid_run_comes_first(self):
        deeds = RUN + [("step", 1, "again")]
        self.assertEqual(raised(values_along, shop(), deeds, {"no": 1}), ("InvalidRun", 5))
        self.assertEqual(raised(values_along, shop(), [("new", "no", 1)], {"no": 1}), ("InvalidRun", 0))


class NothingIsShared(unittest.TestCase):
    def test_what_was_passed_stays_as_it_was(self):
        plan, total = shop(), {"taken": 2, "held": 0}
        for deeds in [list(RUN), RUN + [("new", "no", 0)], []]:
            before = copy.deepcopy((deeds, total))
            is_run(plan, deeds)
            raised(totals, plan, deeds)
            raised(values_along, plan, deeds, total)
            raised(values_along, plan, deeds, {"no": 1})
            self.assertEqual((deeds, total), before)
            self.assertEqual(plan, shop())

    def test_every_returned_list_is_new(self):
        plan = shop()
        found = []
        for _ in range(2):
            for deeds in [[], RUN[:1], RUN]:
                found += [totals(plan, deeds), values_along(plan, deeds, {"held": 1})]
        self.assertTrue(all_apart(*found))
        for each in found:
            each.append(7)
        self.assertEqual([totals(plan, RUN), values_along(plan, RUN, {"held": 1})], [[5, 4], [0, 0, 5, 5, 5, 5]])

    def test_kinds_of_values(self):
        self.assertEqual([type(is_run(shop(), RUN)), type(is_run(shop(), RUN[1:]))], [bool, bool])
        self.assertEqual({type(worth) for worth in totals(shop(), RUN)}, {int})
        self.assertEqual({type(worth) for worth in values_along(shop(), RUN, {"held": 1})}, {int})


class ManyRuns(unittest.TestCase):
    def longer(self, chance, columns, kinds, checks, wrong):
        """Random deeds; a wrong one mostly ends them, and is mostly left out where `wrong` is False."""
        deeds = []
        for _ in range(chance.randint(0, 40)):
            more = deeds + [random_deed(chance, sum(deed[0] == "new" for deed in deeds))]
            if wrong or first_wrong(columns, kinds, checks, more) is None:
                deeds = more
        return deeds

    def test_random_lists_of_deeds_against_the_words_of_the_document(self):
        chance = random.Random(6)
        seen = {True: 0, False: 0}
        for turn in range(250):
            columns, kinds, checks = random_parts(chance)
            plan = Plan(columns, kinds, checks)
            deeds = self.longer(chance, columns, kinds, checks, turn % 4 == 0)
            wrong = first_wrong(columns, kinds, checks, deeds)
            seen[wrong is None] += len(deeds) > 2
            self.assertIs(is_run(plan, deeds), wrong is None)
            if wrong is None:
                self.check_run(chance, plan, columns, kinds, deeds)
                self.check_kept(plan, checks, deeds)
            else:
                self.assertEqual(raised(totals, plan, deeds), ("InvalidRun", wrong))
                self.assertEqual(raised(values_along, plan, deeds, {}), ("InvalidRun", wrong))
        self.assertGreater(min(seen.values()), 30)

    def check_run(self, chance, plan, columns, kinds, deeds):
        ends = [totals_at(columns, kinds, parts_after(kinds, deeds[:many])) for many in range(len(deeds) + 1)]
        self.assertEqual(totals(plan, deeds), ends[-1])
        total = random_table(chance, columns, -20, 20)
        self.assertEqual(values_along(plan, deeds, total), [value_at_totals(columns, end, total) for end in ends])

    def check_kept(self, plan, checks, deeds):
        """The first sentence of [9]."""
        for check in checks:
            self.assertGreaterEqual(min(values_along(plan, deeds, check)), 0)


if __name__ == "__main__":
    unittest.main()
