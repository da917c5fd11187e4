"""books.py: books by which a wish is never broken, and equality of books of both classes."""

import unittest

from paidinparts.books import Book, SureBook
from paidinparts.plans import Plan
from paidinparts.ready import payments

from tests.test_books import AGAIN, HELD, MOST, TAKEN, Books, told
from tests.tools import all_apart, raised, shop

# Never more than half of what is held may be taken.
HALF = {"held": 1, "taken": -2}
OPENING = [("new", "hold", 5), ("step", 0, "hold"), ("new", "take", 2), ("new", "take", 1)]


def sure_of(plan, wish, deeds):
    """A book of a plan and a wish in which these deeds were done."""
    book = SureBook(plan, wish)
    book.write(deeds)
    return book


class Wishes(Books):
    def test_without_deeds(self):
        for plan, wish, zeros in [(shop(), HALF, [0, 0]), (Plan([], [], []), {}, []), (shop(), {}, [0, 0])]:
            self.assertEqual(told(SureBook(plan, wish)), [[], zeros, [], [], 0])
            self.assertEqual(told(SureBook(wish=wish, plan=plan)), [[], zeros, [], [], 0])
        self.assertIsInstance(SureBook(shop(), {}), Book)

    def test_unknown_columns(self):
        for wish, column in [({"given": 1}, "given"), ({"held": 1, "z": 0, "b": 0}, "b"), ({"": 0, "a": 1}, "")]:
            self.assertEqual(raised(SureBook, shop(), wish), ("UnknownColumn", column))
        self.assertEqual(raised(SureBook, Plan([], [], []), {"a": 0}), ("UnknownColumn", "a"))

    def test_steps_that_would_break_it(self):
        book = sure_of(shop(), HALF, OPENING)
        self.assertEqual([book.able(1), book.able(2), book(1, "take")], [["take"], ["take"], [5, 2]])
        self.check_raises(("WishBroken", -3), book, book, 1, "again")
        self.check_raises(("WishBroken", -1), book, book, 2, "take")
        self.assertEqual([book.able(1), book.able(2), book.run], [[], [], OPENING + [("step", 1, "take")]])

    def test_a_value_of_zero_breaks_nothing(self):
        book = sure_of(shop(), HALF, [("new", "hold", 4), ("step", 0, "hold"), ("new", "take", 1)])
        self.assertEqual([book(1, "take"), book.able(1)], [[4, 1], ["again"]])
        self.assertEqual([book(1, "again"), book.able(1)], [[4, 2], []])

    def test_checks_come_first(self):
        book = sure_of(shop(), HALF, OPENING + [("new", "take", 6), ("new", "take", 3)])
        self.check_raises(("Refused", 0), book, book, 3, "take")
        self.check_raises(("WishBroken", -1), book, book, 4, "take")
        self.check_raises(("UnknownStep", "again"), book, book, 4, "again")
        self.check_raises(("UnknownPart", 5), book, book, 5, "again")
        self.assertEqual([book.able(3), book.able(4)], [[], []])
        several = SureBook(shop().with_checks([{"taken": -1}, {"taken": -2}]), {"taken": -5})
        several.write(OPENING)
        self.check_raises(("Refused", 1), several, several, 2, "take")

    def test_the_value_that_the_wish_would_have(self):
        plan = Plan(["a", "b"], [("k", [{}, {"a": 3, "b": -2}], [("go", 0, 1)])], [])
        book = sure_of(plan, {"a": -7, "b": 1}, [("new", "k", 10), ("new", "k", MOST)])
        self.check_raises(("WishBroken", -230), book, book, 0, "go")
        self.check_raises(("WishBroken", -23 * MOST), book, book, 1, "go")

    def test_a_step_that_raises_the_wish(self):
        plan = Plan(["a"], [("k", [{}, {"a": 1}, {"a": -1}], [("up", 0, 1), ("down", 0, 2), ("off", 1, 0)])], [])
        book = sure_of(plan, {"a": 1}, [("new", "k", 2), ("new", "k", 2)])
        self.assertEqual([book.able(0), book(0, "up")], [["up"], [2]])
        self.assertEqual([book.able(1), book(1, "down"), book.able(0)], [["down", "up"], [0], []])
        self.check_raises(("WishBroken", -2), book, book, 0, "off")
        self.assertEqual([book.undo(), book(0, "off"), book.balance], [None, [0], [0]])

    def test_new_parts_and_their_errors(self):
        book = SureBook(shop(), HALF)
        self.assertEqual([book.new("take", 7), book.new("hold", 1)], [0, 1])
        self.check_raises(("UnknownKind", "give"), book, book.new, "give", 0)
        self.check_raises(("InvalidAmount", 0), book, book.new, "hold", 0)
        self.check_raises(("UnknownPart", 2), book, book.able, 2)
        self.check_raises(("UnknownPart", -1), book, book.able, -1)

    def test_a_wish_that_is_kept_refuses_nothing(self):
        for wish in [{}, {"held": 1, "taken": -1}, {"held": 0}]:
            book, plain = SureBook(shop(), wish), Book(shop())
            for deed in AGAIN:
                self.assertEqual(book.write([deed]), plain.write([deed]))
                self.assertEqual(told(book), told(plain))


class Write(Books):
    def test_deeds(self):
        book = SureBook(shop(), HALF)
        self.assertEqual([book.write(OPENING), book.write([])], [[5, 0], [5, 0]])
        self.assertEqual(book.write(deeds=[("step", 1, "take")]), [5, 2])
        self.assertEqual(book.run, OPENING + [("step", 1, "take")])

    def test_all_or_none(self):
        book = sure_of(shop(), HALF, OPENING)
        taken = [("step", 1, "take")]
        for deed, error in [
            (("step", 2, "take"), ("WishBroken", -1)),
            (("step", 1, "again"), ("WishBroken", -3)),
            (("step", 1, "take"), ("UnknownStep", "take")),
            (("step", 3, "take"), ("UnknownPart", 3)),
            (("new", "no", 0), ("UnknownKind", "no")),
            (("new", "take", 0), ("InvalidAmount", 0)),
        ]:
            self.check_raises(error, book, book.write, taken + [deed])
            self.check_raises(error, book, book.write, taken + [deed, ("step", 9, "no")])
        self.check_raises(("Refused", 0), book, book.write, taken + [("new", "take", 4), ("step", 3, "take")])

    def test_the_first_error_in_the_list(self):
        # The wish is checked last for each deed, not behind all deeds.
        book = sure_of(shop(), HALF, OPENING)
        made, one, other = ("new", "take", 3), ("step", 3, "take"), ("step", 9, "no")
        self.check_raises(("WishBroken", -1), book, book.write, [made, one, other])
        self.check_raises(("UnknownPart", 9), book, book.write, [made, other, one])

    def test_it_may_not_be_broken_on_the_way(self):
        book = SureBook(shop(), HALF)
        turned = [("new", "take", 1), ("new", "hold", 2), ("step", 1, "hold"), ("new", "hold", 1), ("step", 2, "hold")]
        self.assertEqual(book.write(turned + [("step", 0, "take")]), [3, 1])
        other = SureBook(shop().with_checks([]), {"held": 1, "taken": -3})
        broken = turned[:3] + [("step", 0, "take")] + turned[3:]
        self.check_raises(("WishBroken", -1), other, other.write, broken)
        self.assertEqual(other.write(turned), [3, 0])


class Undo(Books):
    def test_down_to_the_empty_run_and_once_more(self):
        deeds = OPENING + [("step", 1, "take")]
        book = sure_of(shop(), HALF, deeds)
        for many in range(len(deeds) - 1, -1, -1):
            self.assertIsNone(book.undo())
            self.assertEqual(told(book), told(sure_of(shop(), HALF, deeds[:many])))
        self.check_raises(("NothingToUndo", 0), book, book.undo)

    def test_what_was_taken_back_no_longer_counts(self):
        book = sure_of(shop(), HALF, OPENING + [("step", 1, "take")])
        self.check_raises(("WishBroken", -1), book, book, 2, "take")
        book.undo()
        self.assertEqual([book(2, "take"), book(2, "again")], [[5, 1], [5, 2]])
        self.check_raises(("WishBroken", -3), book, book, 1, "take")


class General(Books):
    def test_returned_lists_are_new(self):
        book = sure_of(shop(), HALF, OPENING)
        taken = lambda: [book.parts, book.balance, book.run, book.able(1), book.write([])]
        self.assertTrue(all_apart(taken(), taken()))
        for found in taken():
            found.append("more")
        book(1, "take").clear()
        self.assertEqual(told(book), told(sure_of(shop(), HALF, OPENING + [("step", 1, "take")])))

    def test_what_is_passed_is_neither_kept_nor_changed(self):
        wish, deeds = {"taken": -2, "held": 1}, list(OPENING)
        book = sure_of(shop(), wish, deeds)
        self.assertEqual([list(wish.items()), deeds], [[("taken", -2), ("held", 1)], OPENING])
        wish.clear()
        deeds.clear()
        self.assertEqual(book.able(1), ["take"])
        book(1, "take")
        self.check_raises(("WishBroken", -1), book, book, 2, "take")

    def test_what_it_has_of_its_own(self):
        self.assertTrue(issubclass(SureBook, Book))
        for name in ["__init__", "__call__", "able", "write", "__eq__"]:
            self.assertIn(name, vars(SureBook))


class Equality(unittest.TestCase):
    def check_equal(self, one, other):
        for left, right in [(one, other), (other, one)]:
            self.assertIs(left == right, True)
            self.assertIs(left != right, False)

    def check_unequal(self, one, other):
        for left, right in [(one, other), (other, one)]:
            self.assertIs(left == right, False)
            self.assertIs(left != right, True)

    def books(self, *more):
        """A new book, or a new sure one if a wish is given."""
        return SureBook(shop(), *more) if more else Book(shop())

    def test_books_of_equal_plans_and_runs(self):
        for more in [(), (HALF,), ({},)]:
            one, other = self.books(*more), self.books(*more)
            self.check_equal(one, one)
            self.check_equal(one, other)
            for many in range(len(OPENING)):
                one.write(OPENING[many : many + 1])
                self.check_unequal(one, other)
                other.write(OPENING[many : many + 1])
                self.check_equal(one, other)

    def test_books_that_have_lost_deeds(self):
        for more in [(), (HALF,)]:
            one, other = self.books(*more), self.books(*more)
            one.write(OPENING)
            for _ in OPENING:
                one.undo()
                self.assertIs(one == other, len(one) == 0)
            self.check_equal(one, other)
            one.write(OPENING + [("step", 1, "take")])
            other.write(OPENING)
            self.check_unequal(one, other)
            one.undo()
            self.check_equal(one, other)

    def test_runs_count_not_where_they_lead(self):
        for more in [(), ({},)]:
            one, other = self.books(*more), self.books(*more)
            one.write([("new", "hold", 1), ("new", "hold", 1), ("step", 0, "hold"), ("step", 1, "hold")])
            other.write([("new", "hold", 1), ("new", "hold", 1), ("step", 1, "hold"), ("step", 0, "hold")])
            self.assertEqual([one.parts, one.balance], [other.parts, other.balance])
            self.check_unequal(one, other)

    def test_other_plans(self):
        others = [shop().with_checks([{}]), shop().without_steps([("take", "again")]), payments(), Plan([], [], [])]
        for other in others:
            self.check_unequal(Book(shop()), Book(other))
            self.check_unequal(SureBook(shop(), {}), SureBook(other, {}))
            self.check_unequal(SureBook(shop(), {}), Book(other))
        self.check_equal(Book(shop()), Book(shop().with_checks([])))

    def test_sure_books_and_others(self):
        for deeds in [[], HELD, TAKEN]:
            for wish in [{}, {"held": 1}, {"held": 1, "taken": -1}]:
                plain, sure = Book(shop()), SureBook(shop(), wish)
                plain.write(deeds)
                sure.write(deeds)
                self.assertEqual(told(plain), told(sure))
                self.check_unequal(plain, sure)

    def test_wishes(self):
        self.check_equal(SureBook(shop(), {}), SureBook(shop(), {"held": 0}))
        self.check_equal(SureBook(shop(), {"held": 1}), SureBook(shop(), {"taken": 0, "held": 1}))
        self.check_equal(SureBook(shop(), {"taken": -2, "held": 1}), SureBook(shop(), HALF))
        others = [{}, {"held": 1}, {"taken": -2}, {"held": 1, "taken": -1}]
        for wish in others + [{"held": -2, "taken": 1}, {"held": 2, "taken": -4}]:
            self.check_unequal(SureBook(shop(), HALF), SureBook(shop(), wish))

    def test_anything_else(self):
        for book in [Book(shop()), SureBook(shop(), {}), Book(Plan([], [], []))]:
            for other in [None, 0, 1, "", [], {}, (), shop(), book.run, book.parts, Book, SureBook, object()]:
                self.check_unequal(book, other)

    def test_in_lists(self):
        self.assertIs(SureBook(shop(), {}) in [Book(shop()), shop(), []], False)
        self.assertIs(Book(shop()) in [SureBook(shop(), {}), Book(shop())], True)


if __name__ == "__main__":
    unittest.main()
