"""factors.py: the least fraction between two sums."""

import copy
import math
import unittest

from paidinparts.factors import least_factor
from paidinparts.plans import Plan

from tests.judges import Judged
from tests.tools import ladder_parts, one_each, raised, shop, shop_parts

EMPTY = ([], [], [])


def heard_parts(hold=2, take=3):
    """Money that counts otherwise when it is held than when it is taken."""
    takes = [{}, {"taken": take}, {"taken": take, "heard": 1}]
    kinds = [("hold", [{}, {"held": hold}], [("hold", 0, 1)]), ("take", takes, [("take", 0, 1), ("hear", 1, 2)])]
    return ["held", "taken", "heard"], kinds, [{"held": 1, "taken": -1}]


class LeastFactor(Judged, unittest.TestCase):
    def check_factors(self, parts, rows):
        for one, other, fraction in rows:
            with self.subTest(one=one, other=other):
                self.assertEqual(self.judge_factor(parts, one, other), fraction)

    def test_the_document(self):
        self.check_factors(heard_parts(), [
            ({"taken": 1}, {"held": 1}, (1, 1)), ({"heard": 1}, {"held": 1}, (1, 3)),
            ({"taken": 1}, {"heard": 1}, None), ({"held": -1}, {"taken": 5}, (0, 1)),
        ])  # fmt: skip

    def test_lowest_terms(self):
        self.check_factors(heard_parts(), [
            ({"taken": 4}, {"held": 6}, (2, 3)), ({"taken": 6}, {"held": 4}, (3, 2)),
            ({"taken": 6}, {"held": 3}, (2, 1)), ({"heard": 4}, {"held": 2}, (2, 3)),
            ({"heard": 10}, {"taken": 4}, (5, 6)), ({"heard": 3}, {"taken": 1}, (1, 1)),
        ])  # fmt: skip

    def test_zero(self):
        self.check_factors(shop_parts(), [
            ({}, {}, (0, 1)), ({"held": -1}, {}, (0, 1)), ({}, {"held": 1}, (0, 1)), ({}, {"held": -1}, (0, 1)),
            ({"held": -1}, {"held": 1}, (0, 1)), ({"taken": 1, "held": -1}, {"taken": -7}, (0, 1)),
            ({"held": 0}, {"taken": 0}, (0, 1)),
        ])  # fmt: skip

    def test_none(self):
        self.check_factors(shop_parts(), [
            ({"held": 1}, {}, None), ({"held": 1}, {"held": -1}, None), ({"held": 1}, {"taken": 1}, None),
            ({"held": 1}, {"held": 1, "taken": -1}, None), ({"taken": 1}, {"held": 1, "taken": -1}, None),
        ])  # fmt: skip

    def test_a_greater_fraction_may_be_too_much_again(self):
        # The second sum may be below 0, so that a greater fraction is not enough again.
        kinds = [("k", [{}, {"a": 2, "b": 3}], [("go", 0, 1)]), ("l", [{}, {"a": -5, "b": -4}], [("go", 0, 1)])]
        parts = (["a", "b"], kinds, [])
        self.check_factors(parts, [({"a": 1}, {"b": 1}, (2, 3)), ({"a": -1}, {"b": -1}, None)])
        self.check_factors(parts, [({"a": 1}, {"b": 2}, (1, 3)), ({"a": 2}, {"b": 1}, (4, 3))])
        self.check_factors(parts, [({"a": 1, "b": -1}, {"b": 1}, (0, 1))])
        steep = [("k", [{}, {"a": 2, "b": 1}], [("go", 0, 1)]), ("l", [{}, {"a": -1, "b": -1}], [("go", 0, 1)])]
        self.check_factors((["a", "b"], steep, []), [({"a": 1}, {"b": 1}, None)])

    def test_checks_that_are_needed_together(self):
        names = ["a", "b", "c", "d", "e"]
        kinds = one_each(names)
        checks = [{one: by, other: -by - 1} for by, (one, other) in enumerate(zip(names, names[1:]), start=1)]
        parts = (names, kinds, checks)
        self.check_factors(parts, [({"e": 1}, {"a": 1}, (1, 5)), ({"e": 3}, {"b": 1}, (6, 5))])
        self.check_factors(parts, [({"d": 1, "e": 1}, {"a": 1}, (9, 20))])
        self.check_factors((names, kinds, checks[1:]), [({"e": 1}, {"a": 1}, None), ({"e": 1}, {"b": 1}, (2, 5))])

    def test_closed_states_do_not_count(self):
        columns, kinds, checks = heard_parts()
        dry = (columns, [("hold", kinds[0][1], []), kinds[1]], checks)
        self.check_factors(dry, [({"taken": 1}, {"held": 1}, (0, 1)), ({"taken": 1}, {}, (0, 1))])
        fewer = (columns, [kinds[0], ("take", kinds[1][1], [("take", 0, 1)])], checks)
        self.check_factors(fewer, [({"heard": 5}, {"held": 1}, (0, 1))])

    def test_levels(self):
        columns, kinds, checks = ladder_parts(4)
        parts = (columns, kinds, checks)
        # A part of kinda counts once, and what it took counts no more.
        self.check_factors(parts, [({"a": 1}, dict.fromkeys(columns, 1), (1, 1)), ({"a": 1}, {"d": 1}, None)])
        self.check_factors((columns, kinds[:-1], checks), [({"a": 1}, {"d": 1}, (0, 1))])

    def test_without_columns_kinds_steps_or_checks(self):
        still, lone = ("k", [{}, {"a": 1}], []), ("k", [{}], [])
        for parts in [EMPTY, (["a"], [], []), (["a"], [still], [{"a": 1}]), (["a"], [lone], [])]:
            self.check_factors(parts, [({}, {}, (0, 1))] + [({"a": 5}, {"a": -1}, (0, 1)) for _ in parts[0]])

    def test_great_factors(self):
        most = 10**12 - 1
        low = math.gcd(most, most - 2)
        self.check_factors(shop_parts(), [
            ({"taken": most}, {"held": most - 2}, (most // low, (most - 2) // low)),
            ({"taken": most - 2}, {"held": most}, ((most - 2) // low, most // low)),
            ({"taken": most, "held": 1 - most}, {"held": most}, (1, most)),
            ({"taken": most, "held": -most}, {"held": 1}, (0, 1)),
        ])  # fmt: skip
        parts = heard_parts(97, 89)
        self.check_factors(parts, [({"taken": 1}, {"held": 1}, (1, 1)), ({"heard": 1}, {"held": 1}, (1, 89))])

    def test_kinds_of_values(self):
        for one in [{"taken": 1}, {"taken": -1}]:
            found = least_factor(shop(), one, {"held": 3})
            self.assertEqual([type(found), [type(each) for each in found]], [tuple, [int, int]])


class Errors(unittest.TestCase):
    def test_unknown_columns(self):
        for column in ["no", "", "Held", "hold"]:
            for factor in [1, 0]:
                strange = {column: factor, "held": 1}
                for first, second in [(strange, {}), ({}, strange), (strange, {"a": 1})]:
                    self.assertEqual(raised(least_factor, shop(), first, second), ("UnknownColumn", column))

    def test_the_first_sum_comes_first(self):
        self.assertEqual(raised(least_factor, shop(), {"z": 1}, {"a": 1}), ("UnknownColumn", "z"))
        self.assertEqual(raised(least_factor, shop(), {"z": 0, "b": 0}, {"a": 1}), ("UnknownColumn", "b"))
        self.assertEqual(raised(least_factor, shop(), {"held": 1}, {"z": 1, "a": 0}), ("UnknownColumn", "a"))
        self.assertEqual(raised(least_factor, Plan(*EMPTY), {}, {"a": 0}), ("UnknownColumn", "a"))


class NothingIsShared(unittest.TestCase):
    def test_what_was_passed_stays_as_it_was(self):
        plan, one, other = shop(), {"taken": 2, "held": 0}, {"held": 3}
        before = copy.deepcopy((one, other))
        self.assertEqual(least_factor(plan, one, other), (2, 3))
        raised(least_factor, plan, one, {"no": 1})
        self.assertEqual((one, other, list(one)), (*before, list(before[0])))
        self.assertEqual(plan, shop())

    def test_by_name(self):
        self.assertEqual(least_factor(other={"held": 3}, plan=shop(), one={"taken": 2}), (2, 3))


if __name__ == "__main__":
    unittest.main()
