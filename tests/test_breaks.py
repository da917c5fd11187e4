"""wishes.py [8]: broken, judge_broken and unrolled."""

import copy
import random
import unittest

from paidinparts.plans import Plan
from paidinparts.runs import is_run, values_along
from paidinparts.wishes import broken, judge_broken, unrolled

from tests.judges import Judged, copied
from tests.tools import (
    all_apart, first_wrong, ladder_parts, one_each, parts_after, random_deed, random_parts, random_table, raised, shop,
    shop_parts, totals_at, value_at_totals,
)  # fmt: skip

# A part of money that was taken twice as often as held.
WISH = {"held": 1, "taken": -2}
OPENING = [("new", "hold", 5), ("step", 0, "hold")]
ROUND = [("new", "take", 1), ("step", 0, "take")]


def drift_parts():
    """Three kinds that raise a column by 1, 3 and -1, under a check of this column, and a second column to wish for."""
    kinds = [(name, [{}, {"a": by, "b": 1}], [("go", 0, 1)]) for name, by in [("up", 1), ("jump", 3), ("down", -1)]]
    return ["a", "b"], kinds, [{"a": 1}]


def judged_by_hand(parts, wish, told):
    """What judge_broken has to return, from the words of the document, with each copy written out."""
    columns, kinds, checks = parts
    if told[2] < 0 or (told[2] > 0 and parts_after(kinds, told[1]) is None):
        return False
    deeds = copied(told)
    if first_wrong(columns, kinds, checks, deeds) is not None:
        return False
    return value_at_totals(columns, totals_at(columns, kinds, parts_after(kinds, deeds)), wish) < 0


class Broken(Judged, unittest.TestCase):
    def test_the_shop(self):
        for wish in [WISH, {"held": -1}, {"taken": -1}, {"held": 3, "taken": -4}, {"held": -1, "taken": 1}]:
            self.assertFalse(self.judge_wish(shop_parts(), wish))
            told = broken(shop(), wish)
            self.assertEqual([type(told), [type(each) for each in told]], [tuple, [list, list, int]])
            self.assertTrue(judged_by_hand(shop_parts(), wish, told))
            self.assertLess(values_along(shop(), unrolled(told), wish)[-1], 0)
        self.assertIsNone(broken(shop(), {"held": 1, "taken": -1}))

    def test_levels(self):
        for many in range(1, 5):
            for up, down in [(1, -1), (100, -1), (1, -100), (7, -5)]:
                parts = ladder_parts(many, up, down)
                for column in parts[0]:
                    self.assertFalse(self.judge_wish(parts, {column: -1}))
                    wish = {**dict.fromkeys(parts[0], 10**12 - 1), column: -1}
                    self.assertFalse(self.judge_wish(parts, wish))

    def test_a_break_that_needs_two_kinds_together(self):
        kinds = [
            ("k", [{}, {"a": 2, "b": -1, "c": -1}], [("go", 0, 1)]),
            ("l", [{}, {"a": -1, "b": 2, "c": -1}], [("go", 0, 1)]),
            ("m", [{}, {"a": 1, "b": 1, "c": 9}], [("go", 0, 1)]),
        ]
        parts = (["a", "b", "c"], kinds, [{"a": 1}, {"b": 1}])
        self.assertFalse(self.judge_wish(parts, {"c": 1}))
        self.assertFalse(self.judge_wish(parts, {"c": 10**12 - 1}))
        self.assertTrue(self.judge_wish((parts[0], kinds[::2], parts[2]), {"c": 1}))
        self.assertTrue(self.judge_wish((parts[0], kinds[1:], parts[2]), {"c": 1}))

    def test_great_times(self):
        kinds = one_each("acb")
        parts = (["a", "b", "c"], kinds, [{"a": 1, "b": 1, "c": -1}])
        most = 10**12 - 1
        wish = {"a": most, "b": 1, "c": -2}
        self.assertFalse(self.judge_wish(parts, wish))
        # Each part of c needs one of a or b, so a break without a counts as little as possible below 0.
        lap = [("new", "c", 1), ("step", 0, "go"), ("new", "b", 1), ("step", 1, "go")]
        plan, opening = Plan(*parts), [("new", "a", 1), ("step", 0, "go")]
        many = [most - 1, most, most + 1, 10**199, 10**200 - 1]
        found = [judge_broken(plan, wish, (opening, lap, times)) for times in many]
        self.assertEqual(found, [False, False, True, True, True])

    def test_steep_levels_with_great_times(self):
        parts = ladder_parts(4, 1, -100)
        wish = {"a": -1, "b": 10**12 - 1, "c": 10**12 - 1, "d": 10**12 - 1}
        self.assertFalse(self.judge_wish(parts, wish))
        opening, again, times = broken(Plan(*parts), wish)
        self.assertIs(judge_broken(Plan(*parts), wish, (opening, again, times + 1)), True)


class JudgeBroken(unittest.TestCase):
    def judged(self, told, wish=None, parts=None):
        wish, parts = WISH if wish is None else wish, parts or shop_parts()
        found = judge_broken(Plan(*parts), wish, told)
        if told[2] < 50:
            self.assertIs(found, judged_by_hand(parts, wish, told))
        return found

    def test_the_shop(self):
        found = [self.judged((OPENING, ROUND, times)) for times in range(-2, 9)]
        self.assertEqual(found, [False] * 5 + [True] * 3 + [False] * 3)

    def test_times_zero_and_any_round(self):
        taken = OPENING + [("new", "take", 4), ("step", 1, "take")]
        for again in [[], ROUND, [("new", "no", 0)], [("step", 7, "no")], [("step", -1, "hold")] * 9]:
            self.assertIs(self.judged((taken, again, 0)), True)
            self.assertIs(self.judged((OPENING, again, 0)), False)
            self.assertIs(self.judged(([], again, 0)), False)
            self.assertIs(self.judged((taken, again, -1)), False)

    def test_an_empty_round(self):
        taken = OPENING + [("new", "take", 4), ("step", 1, "take")]
        for times in [0, 1, 2, 10**199]:
            self.assertIs(self.judged((taken, [], times)), True)
            self.assertIs(self.judged((OPENING, [], times)), False)
            self.assertIs(self.judged(([], [], times), {}), False)

    def test_the_value_has_to_be_below_zero(self):
        opening = [("new", "hold", 4), ("step", 0, "hold")]
        found = [self.judged((opening, ROUND, times)) for times in [1, 2, 3, 4, 5]]
        self.assertEqual(found, [False, False, True, True, False])

    def test_below_zero_at_the_end_and_not_on_the_way(self):
        wish = {"held": -1, "taken": 2}
        lap = ROUND + [("new", "hold", 1), ("step", 1, "hold")]
        found = [self.judged((OPENING, lap, times), wish) for times in [0, 1, 4, 5, 6, 10**60]]
        self.assertEqual(found, [True, True, True, False, False, False])

    def test_no_run_in_the_opening(self):
        taken = OPENING + [("new", "take", 4), ("step", 1, "take")]
        news, steps = [("new", "no", 1), ("new", "hold", 0)], [(2, "take"), (-1, "take"), (1, "again")]
        for deed in news + [("step", *step) for step in steps]:
            for at in range(len(taken) + 1):
                for times in [0, 1, 5]:
                    self.assertIs(self.judged((taken[:at] + [deed] + taken[at:], [], times)), False)
                    self.assertIs(self.judged((taken[:at] + [deed] + taken[at:], ROUND, times)), False)

    def test_no_run_in_the_round(self):
        taken = OPENING + [("new", "take", 4), ("step", 1, "take")]
        news, steps = [("new", "no", 1), ("new", "take", -1)], [(0, "take"), (1, "again"), (-1, "again")]
        for deed in news + [("step", *step) for step in steps]:
            for at in range(len(ROUND) + 1):
                lap = ROUND[:at] + [deed] + ROUND[at:]
                if parts_after(shop_parts()[1], lap) is None:
                    self.assertIs(self.judged((taken, lap, 1)), False)
                    self.assertIs(self.judged((taken, lap, 10**100)), False)
                    self.assertIs(self.judged((taken, lap, 0)), True)

    def test_a_step_in_the_round_never_moves_a_part_of_the_opening_or_of_another_copy(self):
        free = (["held", "taken"], shop_parts()[1], [])
        ahead = [("new", "take", 1), ("step", 0, "take")]
        self.assertIs(self.judged((ahead, [("step", 0, "again")], 1), {"taken": -1}, free), False)
        self.assertIs(self.judged((ahead, [("new", "take", 1), ("step", 1, "take")], 2), {"taken": -1}, free), False)
        self.assertIs(self.judged((ahead, [("new", "take", 1), ("step", -1, "again")], 2), {"taken": -1}, free), False)
        self.assertIs(self.judged((ahead, [("step", 0, "take"), ("new", "take", 1)], 1), {"taken": -1}, free), False)
        self.assertIs(self.judged((ahead, [("new", "take", 1), ("step", 0, "take")], 2), {"taken": -1}, free), True)

    def test_each_copy_has_parts_of_its_own(self):
        free = (["held", "taken"], shop_parts()[1], [])
        lap = ROUND + [("step", 0, "again")]
        for times in [1, 2, 3, 10**50]:
            self.assertIs(self.judged(([], lap, times), {"taken": -1}, free), True)

    def test_a_check_that_refuses_only_the_last_copy(self):
        parts = drift_parts()
        opening = [("new", "up", 7), ("step", 0, "go")]
        lap = [("new", "down", 2), ("step", 0, "go")]
        found = [self.judged((opening, lap, times), {"b": -1}, parts) for times in range(7)]
        self.assertEqual(found, [True, True, True, True, False, False, False])

    def test_a_check_that_refuses_only_the_first_copy(self):
        parts = drift_parts()
        lap = [("new", "down", 5), ("step", 0, "go"), ("new", "jump", 2), ("step", 1, "go")]
        for amount in range(1, 8):
            opening = [("new", "up", amount), ("step", 0, "go")]
            for times in [1, 2, 3, 10**199]:
                self.assertIs(self.judged((opening, lap, times), {"b": -1}, parts), amount >= 5)

    def test_a_check_that_refuses_in_the_midst_of_the_last_copy(self):
        parts = drift_parts()
        lap = [("new", "down", 6), ("step", 0, "go"), ("new", "up", 5), ("step", 1, "go")]
        opening = [("new", "up", 10), ("step", 0, "go")]
        found = [self.judged((opening, lap, times), {"b": -1}, parts) for times in range(8)]
        self.assertEqual(found, [True] * 6 + [False] * 2)
        great = [("new", "up", 10**60 + 5), ("step", 0, "go")]
        found = [self.judged((great, lap, 10**60 + by), {"b": -1}, parts) for by in [-1, 0, 1, 2]]
        self.assertEqual(found, [True, True, False, False])

    def test_great_times(self):
        parts = (["a", "b"], one_each("ab"), [{"a": 1, "b": -1}])
        amount = 10**60 - 1
        opening = [("new", "a", amount), ("step", 0, "go")]
        lap = [("new", "a", 1), ("step", 0, "go"), ("new", "b", 1), ("step", 1, "go")]
        wish = {"a": 1, "b": -2}
        many = [1, amount, amount + 1, 10**200, -(10**200)]
        found = [self.judged((opening, lap, times), wish, parts) for times in many]
        self.assertEqual(found, [False, False, True, True, False])
        self.assertIs(self.judged((opening, lap[2:] + [("step", 0, "go")], 10**200), wish, parts), False)

    def test_random_tuples_against_the_words_of_the_document(self):
        chance = random.Random(8)
        seen = {True: 0, False: 0}
        for turn in range(1500):
            columns, kinds, checks = random_parts(chance)
            parts = (columns, kinds, checks[: turn % 3])
            opening, lap = self.moves(chance, parts), self.moves(chance, parts)
            for times in [-1, 0, 1, 2, 5]:
                wish = random_table(chance, parts[0], -4, 2)
                seen[self.judged((opening, lap, times), wish, parts)] += times > 0
        self.assertGreater(min(seen.values()), 50)

    def moves(self, chance, parts):
        """Random deeds of parts that are there, whether checks refuse them or not; seldom a wrong one."""
        deeds = []
        for _ in range(chance.randint(0, 14)):
            more = deeds + [random_deed(chance, len(deeds))]
            if chance.random() < 0.01 or parts_after(parts[1], more) is not None:
                deeds = more
        return deeds


class Unrolled(unittest.TestCase):
    def check_unrolled(self, parts, wish, told):
        self.assertIs(judge_broken(Plan(*parts), wish, told), True)
        run = unrolled(told)
        self.assertEqual(run, copied(told))
        self.assertIs(is_run(Plan(*parts), run), True)
        self.assertLess(values_along(Plan(*parts), run, wish)[-1], 0)

    def test_the_shop(self):
        self.check_unrolled(shop_parts(), WISH, (OPENING, ROUND, 3))
        self.assertEqual(unrolled((OPENING, ROUND, 2)), OPENING + [
            ("new", "take", 1), ("step", 1, "take"), ("new", "take", 1), ("step", 2, "take"),
        ])  # fmt: skip

    def test_several_parts_in_each_copy(self):
        lap = [("new", "take", 1), ("new", "hold", 2), ("step", 1, "hold"), ("step", 0, "take"), ("step", 0, "again")]
        lap += [("new", "take", 3)]
        self.check_unrolled(shop_parts(), {"held": 1, "taken": -3}, (OPENING, lap, 4))
        self.assertEqual(unrolled((OPENING, lap, 2))[8:], [
            ("new", "take", 1), ("new", "hold", 2), ("step", 5, "hold"), ("step", 4, "take"), ("step", 4, "again"),
            ("new", "take", 3),
        ])  # fmt: skip

    def test_only_new_parts_are_counted(self):
        opening = [("new", "take", 9), ("new", "hold", 9), ("new", "take", 1), ("step", 1, "hold"), ("step", 2, "take")]
        lap = [("new", "take", 1), ("new", "take", 2), ("step", 1, "take")]
        self.check_unrolled(shop_parts(), {"held": 1, "taken": -2}, (opening, lap, 2))
        lap = [("new", "take", 1), ("step", 0, "take"), ("step", 0, "again")]
        self.check_unrolled(shop_parts(), {"held": 1, "taken": -2}, (opening, lap, 3))
        self.assertEqual(unrolled((opening[:4] + opening[:1], lap, 2))[8:], [
            ("new", "take", 1), ("step", 5, "take"), ("step", 5, "again"),
        ])  # fmt: skip

    def test_times_zero(self):
        taken = OPENING + [("new", "take", 4), ("step", 1, "take")]
        for lap in [[], ROUND, [("step", 7, "no")]]:
            self.assertEqual(unrolled((taken, lap, 0)), taken)

    def test_an_empty_round_many_times(self):
        taken = OPENING + [("new", "take", 4), ("step", 1, "take")]
        for times in [1, 2, 1000, 10**200 - 1]:
            self.assertEqual(unrolled((taken, [], times)), taken)

    def test_an_empty_opening(self):
        free = (["held", "taken"], shop_parts()[1], [])
        self.check_unrolled(free, {"taken": -1}, ([], ROUND, 3))
        self.assertEqual(len(unrolled(([], ROUND, 500))), 1000)

    def test_a_thousand_copies(self):
        run = unrolled(([], [("new", "take", 1)], 1000))
        self.assertEqual(run, [("new", "take", 1)] * 1000)

    def test_returned_breaks(self):
        for wish in [WISH, {"held": -1}, {"taken": -1}, {"held": 3, "taken": -4}]:
            self.check_unrolled(shop_parts(), wish, broken(shop(), wish))
        for many in range(1, 5):
            parts = ladder_parts(many)
            for column in parts[0]:
                self.check_unrolled(parts, {column: -1}, broken(Plan(*parts), {column: -1}))


class NothingIsShared(unittest.TestCase):
    def test_what_was_passed_stays_as_it_was(self):
        told = (list(OPENING), list(ROUND), 3)
        before, wish = copy.deepcopy(told), dict(WISH)
        judge_broken(shop(), wish, told)
        judge_broken(shop(), wish, (told[0], told[1], 99))
        raised(judge_broken, shop(), {"no": 1}, told)
        unrolled(told)
        self.assertEqual([told, wish], [before, WISH])

    def test_every_returned_list_is_new(self):
        told = (list(OPENING), [], 0)
        found = [unrolled(told), unrolled(told), broken(shop(), WISH), broken(shop(), WISH), told]
        self.assertTrue(all_apart(*found))
        found[0].append(7)
        self.assertEqual(unrolled(told), OPENING)

    def test_by_name_and_kinds_of_values(self):
        self.assertEqual(unrolled(told=(OPENING, [], 1)), OPENING)
        found = [judge_broken(shop(), WISH, (OPENING, ROUND, times)) for times in [3, 6]]
        self.assertEqual([type(each) for each in found], [bool, bool])


if __name__ == "__main__":
    unittest.main()
