"""errors.py [3]."""

import itertools
import unittest

from paidinparts import errors
from paidinparts.errors import PartError

NAMES = [
    "InvalidName", "DoubleName", "UnknownColumn", "UnknownKind", "NoState", "InvalidStart", "InvalidStep",
    "DoubleStep", "InvalidRun", "InvalidAmount", "UnknownPart", "UnknownStep", "Refused", "WishBroken",
    "NothingToUndo", "Unreadable",
]  # fmt: skip
OTHERS = [getattr(errors, name) for name in NAMES]
ALL = [PartError] + OTHERS


class TheClasses(unittest.TestCase):
    def test_part_error_is_directly_below_value_error(self):
        self.assertEqual(PartError.__bases__, (ValueError,))

    def test_every_other_class_is_directly_below_part_error(self):
        self.assertEqual(len(set(OTHERS)), 16)
        for kind in OTHERS:
            with self.subTest(kind=kind):
                self.assertEqual(kind.__bases__, (PartError,))

    def test_each_is_defined_in_this_file_under_its_name(self):
        for name, kind in zip(["PartError"] + NAMES, ALL):
            self.assertEqual((kind.__name__, kind.__module__), (name, "paidinparts.errors"))


class TheValue(unittest.TestCase):
    VALUES = [
        0, -1, 10**60, True, None, "", "held", "x" * 500, b"held", ("step", 0, 1), (), [], [1, [2]], {}, {"held": 1},
        {1, 2}, object(), ValueError("held"), PartError, len,
    ]  # fmt: skip

    def test_by_position_and_by_name_it_is_the_very_object(self):
        for kind, value in itertools.product(ALL, self.VALUES):
            with self.subTest(kind=kind, value=value):
                self.assertIs(kind(value).value, value)
                self.assertIs(kind(value=value).value, value)

    def test_it_is_the_very_object_when_caught(self):
        value = [["held"]]
        for kind in ALL:
            with self.assertRaises(kind) as caught:
                raise kind(value)
            self.assertIs(caught.exception.value, value)
            self.assertEqual(value, [["held"]])

    def test_it_is_set_on_each_object(self):
        for kind in ALL:
            one, other = kind("one"), kind("other")
            self.assertEqual([one.value, other.value], ["one", "other"])
            self.assertIn("value", vars(one))

    def test_none_is_made_without_a_value_or_of_two_or_by_another_name(self):
        for kind in ALL:
            with self.subTest(kind=kind):
                self.assertRaises(TypeError, kind)
                self.assertRaises(TypeError, kind, 1, 2)
                self.assertRaises(TypeError, kind, 1, value=1)
                self.assertRaises(TypeError, kind, what=1)


class Catching(unittest.TestCase):
    def test_each_is_caught_by_its_own_name_and_by_those_above(self):
        for kind in ALL:
            for above in [kind, PartError, ValueError, Exception]:
                with self.assertRaises(above):
                    raise kind(3)

    def test_none_is_caught_as_another_of_the_sixteen(self):
        for kind, other in itertools.permutations(OTHERS, 2):
            with self.subTest(kind=kind, other=other):
                self.assertEqual(self.caught_first(kind, other), "not the other")

    def test_part_error_is_caught_as_none_of_the_sixteen(self):
        for other in OTHERS:
            self.assertEqual(self.caught_first(PartError, other), "not the other")

    def test_none_is_caught_as_another_error_of_python(self):
        for kind in ALL:
            for other in [TypeError, LookupError, ArithmeticError, RuntimeError, UnicodeError]:
                self.assertEqual(self.caught_first(kind, other), "not the other")

    def caught_first(self, kind, other):
        try:
            raise kind(1)
        except other:
            return "the other"
        except kind:
            return "not the other"


if __name__ == "__main__":
    unittest.main()
