"""The errors of the class Plan and the order in which they are checked [2], [3], [4]."""

import copy
import itertools
import string
import unittest

from paidinparts.plans import Plan

from tests.tools import raised, shop_parts

GOOD_NAMES = ["a", "z", "abcdefgh", "zzzzzzzz", "held", "qwertyui"]
BAD_NAMES = [
    "", "abcdefghi", "Held", "held1", "he ld", " held", "held ", "h_d", "h-d", "he.ld", "HELD", "0", "\"", "h;d",
]  # fmt: skip


def plan_error(columns, kinds, checks=()):
    """The error of a plan, which modifies none of its arguments."""
    given = (columns, kinds, list(checks))
    before = copy.deepcopy(given)
    found = raised(Plan, *given)
    assert given == before, "an argument was modified"
    return found


def kind_error(*kinds):
    """The error of a plan with the column `held` and these kinds."""
    return plan_error(["held"], list(kinds))


def steps_error(size, steps):
    """The error of a plan with one kind `take` with this many states."""
    return kind_error(("take", [{} for _ in range(size)], steps))


class Names(unittest.TestCase):
    def test_names_of_one_to_eight_small_letters_are_taken(self):
        for name in GOOD_NAMES + list(string.ascii_lowercase):
            with self.subTest(name=name):
                self.assertIsNone(plan_error([name], []))
                self.assertIsNone(kind_error((name, [{}], [])))
                self.assertIsNone(steps_error(1, [(name, 0, 0)]))

    def test_other_strings_are_no_names(self):
        for name in BAD_NAMES:
            with self.subTest(name=name):
                self.assertEqual(plan_error([name], []), ("InvalidName", name))
                self.assertEqual(kind_error((name, [{}], [])), ("InvalidName", name))
                self.assertEqual(steps_error(1, [(name, 0, 0)]), ("InvalidName", name))

    def test_every_other_printable_sign_is_no_letter(self):
        signs = [chr(code) for code in range(32, 127) if chr(code) not in string.ascii_lowercase]
        self.assertEqual(len(signs), 69)
        for sign, text in itertools.product(signs, ["{}", "{}a", "a{}", "a{}a"]):
            name = text.replace("{}", sign)
            self.assertEqual(plan_error([name], []), ("InvalidName", name))
            self.assertEqual(kind_error((name, [{}], [])), ("InvalidName", name))
            self.assertEqual(steps_error(1, [(name, 0, 0)]), ("InvalidName", name))

    def test_columns_kinds_and_steps_may_be_called_alike(self):
        self.assertIsNone(plan_error(["hold"], [("hold", [{}, {"hold": 1}], [("hold", 0, 1)])], [{"hold": 1}]))


class Columns(unittest.TestCase):
    def test_double_columns(self):
        self.assertEqual(plan_error(["held", "held"], []), ("DoubleName", "held"))
        self.assertEqual(plan_error(["a", "held", "b", "held", "b"], []), ("DoubleName", "held"))

    def test_column_by_column(self):
        self.assertEqual(plan_error(["a", "a", "B"], []), ("DoubleName", "a"))
        self.assertEqual(plan_error(["a", "B", "a"], []), ("InvalidName", "B"))
        self.assertEqual(plan_error(["B", "B"], []), ("InvalidName", "B"))
        self.assertEqual(plan_error(["Z", "B"], []), ("InvalidName", "Z"))


class KindNames(unittest.TestCase):
    def test_double_kinds(self):
        self.assertEqual(kind_error(("a", [{}], []), ("a", [{}], [])), ("DoubleName", "a"))
        self.assertEqual(
            kind_error(("a", [{}], []), ("b", [{}], []), ("c", [{}], []), ("b", [{}], []), ("a", [{}], [])),
            ("DoubleName", "b"),
        )

    def test_the_name_comes_before_everything_else_of_the_kind(self):
        broken = ([{"no": 1}], [("NO", 5, 5)])
        self.assertEqual(kind_error(("NO", [], [])), ("InvalidName", "NO"))
        self.assertEqual(kind_error(("NO", *broken)), ("InvalidName", "NO"))
        self.assertEqual(kind_error(("a", [{}], []), ("a", [], [])), ("DoubleName", "a"))
        self.assertEqual(kind_error(("a", [{}], []), ("a", *broken)), ("DoubleName", "a"))
        self.assertEqual(kind_error(("NO", [{}], []), ("NO", [{}], [])), ("InvalidName", "NO"))

    def test_kind_by_kind(self):
        self.assertEqual(kind_error(("a", [], []), ("NO", [{}], [])), ("NoState", "a"))
        self.assertEqual(kind_error(("a", [{}], [("NO", 0, 0)]), ("a", [{}], [])), ("InvalidName", "NO"))
        self.assertEqual(kind_error(("a", [{}], [("go", 0, 1)]), ("B", [], [])), ("InvalidStep", ("go", 0, 1)))
        self.assertEqual(kind_error(("a", [{}], []), ("b", [], []), ("c", [{"no": 0}], [])), ("NoState", "b"))


class States(unittest.TestCase):
    def test_a_kind_without_states(self):
        self.assertEqual(kind_error(("take", [], [])), ("NoState", "take"))
        self.assertEqual(kind_error(("take", [], [("NO", 0, 0)])), ("NoState", "take"))
        self.assertEqual(plan_error([], [("take", [], [])]), ("NoState", "take"))

    def test_strange_columns(self):
        for count in [1, -1, 0]:
            self.assertEqual(kind_error(("take", [{}, {"no": count}], [])), ("UnknownColumn", "no"))
            self.assertEqual(kind_error(("take", [{"no": count}], [])), ("UnknownColumn", "no"))
        for column in BAD_NAMES + ["hel", "helds", "take"]:
            self.assertEqual(kind_error(("take", [{}, {"held": 1, column: 0}], [])), ("UnknownColumn", column))
        self.assertEqual(plan_error([], [("take", [{"held": 0}], [])]), ("UnknownColumn", "held"))

    def test_the_first_strange_column_in_ascending_order(self):
        for keys in itertools.permutations(["held", "b", "no", "zz"]):
            counts = {key: 0 for key in keys}
            self.assertEqual(kind_error(("take", [counts], [])), ("UnknownColumn", "b"))
        for keys in itertools.permutations(["held", "hel", "helds", "a"]):
            counts = {key: 2 for key in keys}
            self.assertEqual(plan_error(["held", "a"], [("take", [{}, counts], [])]), ("UnknownColumn", "hel"))
        self.assertEqual(kind_error(("take", [{"b": 1, "B": 1}], [])), ("UnknownColumn", "B"))
        self.assertEqual(kind_error(("take", [{"aa": 1, "a": 1, "": 1}], [])), ("UnknownColumn", ""))

    def test_state_by_state(self):
        self.assertEqual(kind_error(("take", [{}, {"z": 1}, {"a": 1}], [])), ("UnknownColumn", "z"))

    def test_a_start_that_counts(self):
        for count in [1, -1, 10**11]:
            self.assertEqual(kind_error(("take", [{"held": count}], [])), ("InvalidStart", "take"))
        self.assertEqual(plan_error(["a", "b"], [("take", [{"a": 1, "b": -1}], [])]), ("InvalidStart", "take"))
        self.assertEqual(plan_error(["a", "b"], [("take", [{"b": 1}], [])]), ("InvalidStart", "take"))
        self.assertIsNone(plan_error(["a", "b"], [("take", [{"b": 0, "a": 0}, {"a": 1}], [])]))

    def test_the_start_comes_behind_all_states_and_before_the_steps(self):
        self.assertEqual(kind_error(("take", [{"held": 1}, {}, {"no": 0}], [])), ("UnknownColumn", "no"))
        self.assertEqual(kind_error(("take", [{"held": 1, "no": 0}], [])), ("UnknownColumn", "no"))
        self.assertEqual(kind_error(("take", [{"held": 1}], [("NO", 4, 4)])), ("InvalidStart", "take"))
        self.assertEqual(kind_error(("take", [{}, {"no": 1}], [("NO", 4, 4)])), ("UnknownColumn", "no"))
        self.assertEqual(kind_error(("take", [{"held": 1}], []), ("NO", [], [])), ("InvalidStart", "take"))


class Steps(unittest.TestCase):
    def test_states_that_are_not_there(self):
        for size in [1, 2, 3]:
            for there, away in itertools.product(range(size), [-1, -2, -size, size, size + 1, 10**59, -(10**59)]):
                for step in [("go", there, away), ("go", away, there), ("go", away, away)]:
                    with self.subTest(size=size, step=step):
                        self.assertEqual(steps_error(size, [step]), ("InvalidStep", step))

    def test_states_that_are_there(self):
        for size in [1, 2, 3]:
            for source, target in itertools.product(range(size), repeat=2):
                self.assertIsNone(steps_error(size, [("go", source, target)]))

    def test_the_values_are_tuples(self):
        self.assertEqual(steps_error(1, [("go", 0, 1)]), ("InvalidStep", ("go", 0, 1)))
        self.assertEqual(steps_error(1, [("go", 0, 0), ("go", 0, 0)]), ("DoubleStep", ("go", 0, 0)))

    def test_a_name_again_from_the_same_state(self):
        self.assertEqual(steps_error(2, [("go", 0, 1), ("go", 0, 1)]), ("DoubleStep", ("go", 0, 1)))
        self.assertEqual(steps_error(2, [("go", 0, 1), ("go", 0, 0)]), ("DoubleStep", ("go", 0, 0)))
        self.assertEqual(steps_error(2, [("go", 1, 1), ("hear", 1, 1), ("go", 1, 0)]), ("DoubleStep", ("go", 1, 0)))

    def test_what_is_no_double_step(self):
        self.assertIsNone(steps_error(2, [("go", 0, 1), ("go", 1, 1)]))
        self.assertIsNone(steps_error(2, [("go", 0, 1), ("hear", 0, 1)]))
        self.assertIsNone(kind_error(("a", [{}], [("go", 0, 0)]), ("b", [{}], [("go", 0, 0)])))

    def test_the_order_within_a_step(self):
        self.assertEqual(steps_error(1, [("NO", 0, 1)]), ("InvalidName", "NO"))
        self.assertEqual(steps_error(2, [("go", 0, 1), ("go", 0, 2)]), ("InvalidStep", ("go", 0, 2)))
        self.assertEqual(steps_error(2, [("go", 0, 1), ("GO", 0, 1), ("GO", 0, 1)]), ("InvalidName", "GO"))

    def test_step_by_step(self):
        self.assertEqual(steps_error(1, [("go", 0, 1), ("NO", 0, 0)]), ("InvalidStep", ("go", 0, 1)))
        self.assertEqual(steps_error(1, [("go", 0, 0), ("go", 0, 0), ("NO", 0, 0)]), ("DoubleStep", ("go", 0, 0)))
        self.assertEqual(steps_error(1, [("go", 0, 0), ("go", 0, 0), ("hear", 0, 1)]), ("DoubleStep", ("go", 0, 0)))


class Checks(unittest.TestCase):
    def test_strange_columns(self):
        for factor in [1, -1, 0]:
            self.assertEqual(plan_error(["held"], [], [{}, {"no": factor}]), ("UnknownColumn", "no"))
        for column in BAD_NAMES + ["hel", "helds"]:
            self.assertEqual(plan_error(["held"], [], [{"held": 1, column: 0}]), ("UnknownColumn", column))
        self.assertEqual(plan_error([], [("held", [{}], [])], [{"held": 0}]), ("UnknownColumn", "held"))

    def test_the_first_strange_column_in_ascending_order(self):
        for keys in itertools.permutations(["held", "no", "b", "zz"]):
            self.assertEqual(plan_error(["held"], [], [{key: 0 for key in keys}]), ("UnknownColumn", "b"))

    def test_check_by_check(self):
        self.assertEqual(plan_error(["held"], [], [{"z": 1}, {"a": 1}]), ("UnknownColumn", "z"))


class Order(unittest.TestCase):
    """With several things wrong at once, the one that comes first in the document is raised."""

    def test_one_wrong_thing_after_the_other_is_put_right(self):
        # Each entry puts right what the error before it complains of.
        columns = ["held", "held", "B"]
        kinds = [("Kind", [], []), ("take", [], [])]
        checks = [{"zz": 0, "no": 0}]
        found = []

        def note():
            found.append(plan_error(columns, kinds, checks))

        note()
        columns[1] = "taken"
        note()
        columns.pop()
        note()
        kinds[0] = ("take", [], [])
        note()
        steps = [("GO", 9, 9), ("go", 0, -1), ("go", 0, 0), ("go", 0, 1)]
        kinds[0] = ("take", [{"held": 1}, {"zz": 0, "no": 0}], steps)
        note()
        kinds[0] = ("take", [{"held": 1}, {"zz": 0}], steps)
        note()
        kinds[0] = ("take", [{"held": 1}, {"held": 1}], steps)
        note()
        kinds[0] = ("take", [{"held": 0}, {"held": 1}], steps)
        note()
        steps.pop(0)
        note()
        steps.pop(0)
        note()
        steps.pop(0)
        note()
        kinds[1] = ("give", [], [])
        note()
        kinds[1] = ("give", [{}], [])
        note()
        checks[0] = {"zz": 0}
        note()
        checks[0] = {"taken": 0}
        note()
        self.assertEqual(
            found,
            [
                ("DoubleName", "held"),
                ("InvalidName", "B"),
                ("InvalidName", "Kind"),
                ("NoState", "take"),
                ("UnknownColumn", "no"),
                ("UnknownColumn", "zz"),
                ("InvalidStart", "take"),
                ("InvalidName", "GO"),
                ("InvalidStep", ("go", 0, -1)),
                ("DoubleStep", ("go", 0, 1)),
                ("DoubleName", "take"),
                ("NoState", "give"),
                ("UnknownColumn", "no"),
                ("UnknownColumn", "zz"),
                None,
            ],
        )

    def test_columns_before_kinds_before_checks(self):
        wrong_kinds, wrong_checks = [("a", [], [])], [{"no": 1}]
        self.assertEqual(plan_error(["a", "a"], wrong_kinds, wrong_checks), ("DoubleName", "a"))
        self.assertEqual(plan_error(["A"], wrong_kinds, wrong_checks), ("InvalidName", "A"))
        self.assertEqual(plan_error(["a"], wrong_kinds, wrong_checks), ("NoState", "a"))
        self.assertEqual(plan_error(["a"], [], wrong_checks), ("UnknownColumn", "no"))

    def test_a_wrong_plan_leaves_what_was_passed(self):
        columns, kinds, checks = shop_parts()
        checks.append({"no": 1})
        self.assertEqual(plan_error(columns, kinds, checks), ("UnknownColumn", "no"))
        checks.pop()
        self.assertEqual((columns, kinds, checks), shop_parts())


if __name__ == "__main__":
    unittest.main()
