"""texts.py: the texts of sums, of lists of deeds and of plans."""

import copy
import unittest

from paidinparts.plans import Plan
from paidinparts.ready import payments
from paidinparts.texts import show_plan, show_run, show_sum

from tests.tools import raised, shop

MOST = 10**60 - 1


class Sums(unittest.TestCase):
    def test_factors_with_their_columns(self):
        for total, text in [
            ({"held": 1}, "1held"),
            ({"taken": -1}, "-1taken"),
            ({"held": 12, "taken": -345}, "12held -345taken"),
            ({"held": MOST, "taken": -MOST}, f"{MOST}held -{MOST}taken"),
        ]:
            self.assertEqual(show_sum(shop(), total), text)

    def test_factors_stand_in_the_order_of_the_columns(self):
        plan = Plan(["z", "a", "m"], [], [])
        for total in [{"z": 1, "a": 2, "m": 3}, {"m": 3, "a": 2, "z": 1}, {"a": 2, "z": 1, "m": 3}]:
            self.assertEqual(show_sum(plan, total), "1z 2a 3m")

    def test_factors_of_zero_are_left_out(self):
        plan = Plan(["a", "b", "c"], [], [])
        self.assertEqual(show_sum(plan, {"a": 0, "b": 1, "c": 0}), "1b")
        self.assertEqual(show_sum(plan, {"a": 5, "b": 0, "c": -5}), "5a -5c")

    def test_without_factors(self):
        for plan in [shop(), Plan([], [], [])]:
            self.assertEqual(show_sum(plan, {}), "0")
        for total in [{"held": 0}, {"held": 0, "taken": 0}]:
            self.assertEqual(show_sum(shop(), total), "0")

    def test_unknown_columns(self):
        for total, column in [
            ({"given": 1}, "given"),
            ({"held": 1, "z": 0, "b": 0}, "b"),
            ({"b": 1, "A": 1}, "A"),
            ({"": 0, "a": 1}, ""),
        ]:
            self.assertEqual(raised(show_sum, shop(), total), ("UnknownColumn", column))
        self.assertEqual(raised(show_sum, Plan([], [], []), {"a": 0}), ("UnknownColumn", "a"))

    def test_by_name(self):
        self.assertEqual(show_sum(total={"held": 2}, plan=shop()), "2held")

    def test_the_sum_stays(self):
        total = {"taken": 1, "held": 0}
        show_sum(shop(), total)
        self.assertEqual(list(total.items()), [("taken", 1), ("held", 0)])


class Runs(unittest.TestCase):
    def test_deeds(self):
        for deeds, text in [
            ([], ""),
            ([("new", "hold", 5)], "new hold 5"),
            ([("step", 0, "ask")], "step 0 ask"),
            ([("new", "hold", 5), ("step", 0, "ask"), ("step", 12, "go")], "new hold 5; step 0 ask; step 12 go"),
            ([("step", -3, "a"), ("new", "b", 0), ("new", "b", -1)], "step -3 a; new b 0; new b -1"),
            ([("new", "new", MOST), ("step", -MOST, "step")], f"new new {MOST}; step -{MOST} step"),
        ]:
            kept = copy.deepcopy(deeds)
            self.assertEqual(show_run(deeds), text)
            self.assertEqual(deeds, kept)

    def test_by_name(self):
        self.assertEqual(show_run(deeds=[("new", "a", 1)]), "new a 1")


class Plans(unittest.TestCase):
    def test_the_shop(self):
        self.assertEqual(
            show_plan(shop()),
            "columns held taken; kind hold [0,0] [1,0] hold(0,1);"
            " kind take [0,0] [0,1] [0,2] take(0,1) again(1,2); check [1,-1]",
        )

    def test_payments(self):
        head = "columns held taken given booked back; kind hold [0,0,0,0,0] [0,0,0,0,0] [1,0,0,0,0] ask(0,1) hold(1,2)"
        take = "; kind take [0,0,0,0,0] [0,0,0,0,0] [0,1,0,0,0] [0,1,0,1,0] ask(0,1) take(1,2) hear(2,3)"
        give = "; kind give [0,0,0,0,0] [0,0,0,0,0] [0,0,1,0,0] [0,0,1,0,1] ask(0,1) give(1,2) hear(2,3)"
        checks = "; check [1,-1,0,0,0]; check [0,1,-1,0,0]"
        self.assertEqual(show_plan(payments()), head + take + give + checks)
        self.assertEqual(show_plan(payments(checked=False)), head + take + give)

    def test_what_may_be_missing(self):
        for given, text in [
            (([], [], []), "columns"),
            ((["a"], [], []), "columns a"),
            (([], [("k", [{}], [])], []), "columns; kind k []"),
            (([], [("k", [{}, {}], [("go", 0, 1)])], [{}, {}]), "columns; kind k [] [] go(0,1); check []; check []"),
            ((["a"], [("k", [{}], [])], []), "columns a; kind k [0]"),
            ((["a", "b"], [], [{}, {"b": -7}]), "columns a b; check [0,0]; check [0,-7]"),
            ((["a"], [("k", [{}], [("go", 0, 0)]), ("l", [{}], [])], []), "columns a; kind k [0] go(0,0); kind l [0]"),
        ]:
            self.assertEqual(show_plan(Plan(*given)), text)

    def test_counts_factors_and_steps_stand_in_their_order(self):
        kinds = [("z", [{}, {"a": 1, "z": -2}, {"z": 3}], [("t", 2, 1), ("b", 0, 2), ("b", 2, 0)]), ("a", [{}], [])]
        plan = Plan(["z", "a"], kinds, [{"a": 5}, {"z": 1, "a": -1}])
        text = "columns z a; kind z [0,0] [-2,1] [3,0] t(2,1) b(0,2) b(2,0); kind a [0,0]; check [0,5]; check [1,-1]"
        self.assertEqual(show_plan(plan), text)

    def test_long_numbers(self):
        plan = Plan(["a"], [("k", [{}, {"a": MOST}], [])], [{"a": -MOST}])
        self.assertEqual(show_plan(plan), f"columns a; kind k [0] [{MOST}]; check [-{MOST}]")

    def test_plans_of_the_methods(self):
        plan = shop().with_checks([{"taken": 2}]).without_steps([("take", "take")])
        end = "kind take [0,0] [0,1] [0,2] again(1,2); check [1,-1]; check [0,2]"
        self.assertEqual(show_plan(plan), "columns held taken; kind hold [0,0] [1,0] hold(0,1); " + end)

    def test_by_name(self):
        self.assertEqual(show_plan(plan=Plan(["a"], [], [])), "columns a")


if __name__ == "__main__":
    unittest.main()
