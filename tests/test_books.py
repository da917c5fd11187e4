"""books.py: live parts, done step by step or by whole lists of deeds, and taken back."""

import copy
import unittest

from paidinparts.books import Book
from paidinparts.plans import Plan
from paidinparts.ready import payments
from paidinparts.runs import totals

from tests.tools import all_apart, raised, shop

HELD = [("new", "hold", 5), ("step", 0, "hold")]
TAKEN = HELD + [("new", "take", 2), ("step", 1, "take")]
AGAIN = TAKEN + [("step", 1, "again")]
MOST = 10**60 - 1


def book_of(plan, deeds):
    """A book of a plan in which these deeds were done."""
    book = Book(plan)
    book.write(deeds)
    return book


def told(book):
    """All that a book tells of itself."""
    able = [book.able(part) for part in range(len(book.parts))]
    return [book.parts, book.balance, book.run, able, len(book)]


class Books(unittest.TestCase):
    def check_raises(self, error, book, call, *args):
        """A call raises an error and changes nothing."""
        before = told(book)
        self.assertEqual(raised(call, *args), error)
        self.assertEqual(told(book), before)


class Parts(Books):
    def test_without_deeds(self):
        for plan, zeros in [(shop(), [0, 0]), (Plan([], [], []), []), (Plan(["a"], [], []), [0])]:
            self.assertEqual(told(Book(plan)), [[], zeros, [], [], 0])
            self.assertEqual(told(Book(plan=plan)), [[], zeros, [], [], 0])

    def test_new_parts(self):
        book = Book(shop())
        self.assertEqual([book.new("take", 3), book.new("hold", 1), book.new("take", MOST)], [0, 1, 2])
        self.assertEqual(book.parts, [("take", 3, 0), ("hold", 1, 0), ("take", MOST, 0)])
        self.assertEqual([book.balance, len(book)], [[0, 0], 3])
        self.assertEqual(book.run, [("new", "take", 3), ("new", "hold", 1), ("new", "take", MOST)])
        self.assertEqual(book.new(amount=7, kind="hold"), 3)

    def test_steps(self):
        book = Book(shop())
        self.assertEqual([book.new("hold", 5), book(0, "hold")], [0, [5, 0]])
        self.assertEqual([book.new("take", 2), book(1, "take"), book(name="again", part=1)], [1, [5, 2], [5, 4]])
        self.assertEqual(book.parts, [("hold", 5, 1), ("take", 2, 2)])
        self.assertEqual([book.balance, book.run, len(book)], [[5, 4], AGAIN, 5])

    def test_steps_of_several_parts(self):
        book = Book(payments())
        for kind, amount in [("take", 3), ("hold", 4), ("give", 2), ("take", 1)]:
            book.new(kind, amount)
        for part in [3, 2, 1, 0]:
            self.assertEqual(book(part, "ask"), [0] * 5)
        self.assertEqual([book(1, "hold"), book(0, "take")], [[4, 0, 0, 0, 0], [4, 3, 0, 0, 0]])
        self.assertEqual(book(2, "give"), [4, 3, 2, 0, 0])
        self.assertEqual([book(3, "take"), book(0, "hear")], [[4, 4, 2, 0, 0], [4, 4, 2, 3, 0]])
        self.assertEqual(book.parts, [("take", 3, 3), ("hold", 4, 2), ("give", 2, 2), ("take", 1, 2)])

    def test_steps_of_the_same_name_and_back(self):
        steps = [("go", 0, 1), ("go", 1, 2), ("go", 2, 0), ("stay", 1, 1)]
        book = Book(Plan(["a"], [("k", [{}, {"a": 2}, {"a": -3}], steps)], []))
        book.new("k", 5)
        along = [book(0, name)[0] for name in ["go", "stay", "go", "go", "go"]]
        self.assertEqual(along, [10, 10, -15, 0, 10])
        self.assertEqual([book.parts, len(book)], [[("k", 5, 1)], 6])

    def test_kinds_that_share_step_names(self):
        kinds = [("k", [{}, {"a": 1}], [("go", 0, 1)]), ("l", [{}, {"a": 5}, {"a": 7}], [("go", 0, 2)])]
        book = Book(Plan(["a"], kinds, []))
        book.new("l", 1)
        book.new("k", 1)
        self.assertEqual([book(0, "go"), book(1, "go"), book.parts], [[7], [8], [("l", 1, 2), ("k", 1, 1)]])

    def test_without_columns(self):
        book = Book(Plan([], [("k", [{}, {}], [("go", 0, 1)])], [{}]))
        self.assertEqual([book.new("k", 1), book.able(0)], [0, ["go"]])
        self.assertEqual([book(0, "go"), book.able(0), book.balance], [[], [], []])

    def test_a_kind_of_one_state(self):
        book = Book(Plan(["a"], [("k", [{}], [("z", 0, 0), ("b", 0, 0)]), ("l", [{}], [])], [{"a": 1}]))
        self.assertEqual([book.new("k", 1), book.new("l", 1), book.able(0), book.able(1)], [0, 1, ["b", "z"], []])
        self.assertEqual([book(0, "z"), book(0, "b"), book(0, "z")], [[0], [0], [0]])
        self.assertEqual(book.parts, [("k", 1, 0), ("l", 1, 0)])


class Errors(Books):
    def test_new(self):
        book = book_of(shop(), TAKEN)
        for kind in ["give", "", "Hold", "hold ", "take1"]:
            for amount in [1, 0]:
                self.check_raises(("UnknownKind", kind), book, book.new, kind, amount)
        for amount in [0, -1, -MOST]:
            self.check_raises(("InvalidAmount", amount), book, book.new, "hold", amount)
        self.assertEqual(book.new("hold", 1), 2)
        bare = Book(Plan([], [], []))
        self.check_raises(("UnknownKind", "k"), bare, bare.new, "k", 0)

    def test_parts_that_are_not_there(self):
        book = book_of(shop(), TAKEN)
        for part in [2, 3, -1, -2, MOST, -MOST]:
            for name in ["again", "no", ""]:
                self.check_raises(("UnknownPart", part), book, book, part, name)
            self.check_raises(("UnknownPart", part), book, book.able, part)
        empty = Book(shop())
        for part in [0, -1, 1]:
            self.check_raises(("UnknownPart", part), empty, empty, part, "hold")
            self.check_raises(("UnknownPart", part), empty, empty.able, part)

    def test_steps_that_are_not_there(self):
        book = book_of(shop(), TAKEN + [("new", "take", 9)])
        for part, name in [
            (0, "hold"), (0, "take"), (0, ""), (1, "take"), (1, "Again"), (2, "again"), (2, "hold"), (2, "no no"),
        ]:  # fmt: skip
            self.check_raises(("UnknownStep", name), book, book, part, name)

    def test_refused_steps(self):
        book = book_of(shop(), HELD + [("new", "take", 6), ("new", "take", 3)])
        self.check_raises(("Refused", 0), book, book, 1, "take")
        self.assertEqual(book(2, "take"), [5, 3])
        self.check_raises(("Refused", 0), book, book, 2, "again")
        self.assertEqual(book.parts, [("hold", 5, 1), ("take", 6, 0), ("take", 3, 1)])

    def test_the_first_check_that_refuses(self):
        states = [{}, {"a": 1, "b": 1}, {"a": -1}, {"b": -1}, {"a": -1, "b": -1}]
        steps = [("go", 0, 1), ("b", 1, 2), ("c", 1, 3), ("d", 1, 4)]
        plan = Plan(["a", "b"], [("k", states, steps)], [{}, {"a": 1, "b": 1}, {"b": 1}, {"a": 1}])
        book = book_of(plan, [("new", "k", 2), ("step", 0, "go"), ("new", "k", 1), ("step", 1, "go")])
        for name, index in [("b", 3), ("c", 2), ("d", 1)]:
            self.check_raises(("Refused", index), book, book, 0, name)
        self.assertEqual([book(1, "b"), book.able(1)], [[1, 2], []])
        self.check_raises(("Refused", 1), book, book, 0, "d")

    def test_a_value_of_zero_is_not_refused(self):
        book = book_of(shop(), HELD + [("new", "take", 5)])
        self.assertEqual([book.able(1), book(1, "take"), book.able(1)], [["take"], [5, 5], []])
        self.check_raises(("Refused", 0), book, book, 1, "again")

    def test_the_order_of_errors(self):
        # No part, then no step, then a refused one.
        book = book_of(shop(), [("new", "take", 1)])
        self.check_raises(("UnknownPart", 1), book, book, 1, "no")
        self.check_raises(("UnknownStep", "again"), book, book, 0, "again")
        self.check_raises(("Refused", 0), book, book, 0, "take")


class Able(Books):
    def test_names_ascend(self):
        names = ["go", "b", "z", "ab", "a", "zz"]
        plan = Plan(["a"], [("k", [{}, {"a": 1}], [(name, 0, 1) for name in names] + [("q", 1, 0)])], [])
        book = book_of(plan, [("new", "k", 1)])
        self.assertEqual(book.able(0), ["a", "ab", "b", "go", "z", "zz"])
        self.assertEqual([book(part=0, name="z"), book.able(part=0)], [[1], ["q"]])

    def test_each_name_once(self):
        plan = Plan(["a"], [("k", [{}, {"a": 1}], [("go", 1, 0), ("go", 0, 1)]), ("l", [{}], [("go", 0, 0)])], [])
        book = book_of(plan, [("new", "k", 1), ("new", "l", 1)])
        self.assertEqual([book.able(0), book.able(1)], [["go"], ["go"]])

    def test_it_is_what_can_be_done(self):
        book = book_of(payments(numbered=False), [])
        for kind, amount in [("hold", 4), ("take", 2), ("take", 3), ("give", 2)]:
            book.new(kind, amount)
        deeds = [(0, "ask"), (0, "hold"), (1, "ask"), (2, "ask"), (1, "take"), (3, "ask"), (3, "give"), (1, "hear")]
        for part, name in deeds:
            for at in range(4):
                for tried in ["again", "ask", "give", "hear", "hold", "take"]:
                    error = raised(book, at, tried)
                    if error is None:
                        book.undo()
                    self.assertIs(tried in book.able(at), error is None)
            book(part, name)
        self.assertEqual([book.able(at) for at in range(4)], [[], ["again"], [], ["hear"]])

    def test_it_changes_nothing(self):
        book = book_of(shop(), TAKEN)
        before = told(book)
        self.assertEqual([book.able(1), book.able(1), told(book)], [["again"], ["again"], before])


class Write(Books):
    def test_deeds(self):
        book = Book(shop())
        self.assertEqual([book.write(HELD), book.write([]), book.write(AGAIN[2:])], [[5, 0], [5, 0], [5, 4]])
        self.assertEqual([book.run, len(book)], [AGAIN, 5])
        self.assertEqual(book, book_of(shop(), AGAIN))
        self.assertEqual(Book(shop()).write(deeds=AGAIN), [5, 4])
        self.assertEqual(Book(Plan([], [], [])).write([]), [])

    def test_it_does_what_the_single_calls_do(self):
        book = Book(shop())
        book.new("hold", 5)
        book(0, "hold")
        book.new("take", 2)
        book(1, "take")
        self.assertEqual(told(book), told(book_of(shop(), TAKEN)))
        self.assertEqual([book(1, "again"), told(book)], [[5, 4], told(book_of(shop(), AGAIN))])

    def test_the_first_error(self):
        book = book_of(shop(), TAKEN)
        more = [("step", 1, "again"), ("new", "take", 1)]
        for deed, error in [
            (("new", "give", 0), ("UnknownKind", "give")),
            (("new", "hold", 0), ("InvalidAmount", 0)),
            (("new", "hold", -5), ("InvalidAmount", -5)),
            (("step", 3, "no"), ("UnknownPart", 3)),
            (("step", -1, "no"), ("UnknownPart", -1)),
            (("step", 2, "again"), ("UnknownStep", "again")),
            (("step", 1, "again"), ("UnknownStep", "again")),
        ]:
            self.check_raises(error, book, book.write, more + [deed])
            self.check_raises(error, book, book.write, more + [deed, ("new", "no", 0)])
            self.check_raises(error, book, book.write, more + [deed] + more)
        # One more is refused only behind the deeds ahead of it.
        refused = [("new", "take", 2), ("step", 2, "take")]
        self.check_raises(("Refused", 0), book, book.write, more[:1] + refused)
        self.assertEqual(book.write(refused), [5, 4])

    def test_an_error_counts_where_the_book_is_then(self):
        book = Book(shop())
        for error, deeds in [
            (("Refused", 0), [("new", "take", 6), ("step", 0, "take"), ("step", 5, "no")]),
            (("UnknownPart", 0), [("step", 0, "hold"), ("new", "hold", 1)]),
            (("UnknownPart", 1), [("new", "hold", 1), ("step", 1, "hold"), ("new", "no", 1)]),
        ]:
            self.check_raises(error, book, book.write, deeds)
        self.assertEqual(book.write([("new", "hold", 1), ("step", 0, "hold")]), [1, 0])

    def test_nothing_that_was_written_ahead_is_lost(self):
        book = book_of(shop(), AGAIN)
        for many in range(len(AGAIN)):
            self.check_raises(("UnknownPart", -1), book, book.write, HELD[:1] * many + [("step", -1, "hold")])
        for _ in range(5):
            book.undo()
        self.assertEqual(told(book), told(Book(shop())))


class Undo(Books):
    def test_down_to_the_empty_run_and_once_more(self):
        book = book_of(shop(), AGAIN)
        for many in range(len(AGAIN) - 1, -1, -1):
            self.assertIsNone(book.undo())
            self.assertEqual(told(book), told(book_of(shop(), AGAIN[:many])))
        for _ in range(2):
            self.check_raises(("NothingToUndo", 0), book, book.undo)
        self.assertEqual([book.new("take", 7), book.run], [0, [("new", "take", 7)]])

    def test_an_empty_book(self):
        for plan in [shop(), Plan([], [], [])]:
            book = Book(plan)
            self.check_raises(("NothingToUndo", 0), book, book.undo)

    def test_what_is_taken_back_can_be_done_again(self):
        book = book_of(shop(), AGAIN)
        book.undo()
        self.assertEqual([book.able(1), book(1, "again"), book.run], [["again"], [5, 4], AGAIN])
        book.undo()
        book.undo()
        book.undo()
        self.assertEqual([book.parts, book.new("hold", 3), book(1, "hold")], [[("hold", 5, 1)], 1, [8, 0]])

    def test_the_state_that_was_left(self):
        steps = [("go", 0, 1), ("on", 1, 3), ("go", 0, 2), ("on", 2, 3), ("stay", 3, 3)]
        steps[2] = ("by", 0, 2)
        plan = Plan(["a"], [("k", [{}, {"a": 1}, {"a": 5}, {"a": 9}], steps)], [])
        for name, state, value in [("go", 1, 2), ("by", 2, 10)]:
            book = book_of(plan, [("new", "k", 2), ("step", 0, name), ("step", 0, "on"), ("step", 0, "stay")])
            book.undo()
            self.assertEqual([book.parts, book.balance], [[("k", 2, 3)], [18]])
            book.undo()
            self.assertEqual([book.parts, book.balance], [[("k", 2, state)], [value]])

    def test_other_parts_stay(self):
        book = book_of(shop(), AGAIN + [("new", "hold", 1), ("step", 2, "hold")])
        book.undo()
        self.assertEqual([book.parts, book.balance], [[("hold", 5, 1), ("take", 2, 2), ("hold", 1, 0)], [5, 4]])


class General(Books):
    def test_returned_lists_are_new(self):
        book = book_of(shop(), TAKEN)
        taken = lambda: [book.parts, book.balance, book.run, book.able(1), book.write([])]
        self.assertTrue(all_apart(taken(), taken()))
        for found in taken():
            found.append("more")
        for found in [book(1, "again")]:
            found.clear()
        self.assertEqual(told(book), told(book_of(shop(), AGAIN)))

    def test_what_is_passed_is_neither_kept_nor_changed(self):
        deeds = copy.deepcopy(TAKEN)
        book = book_of(shop(), deeds)
        self.assertEqual(deeds, TAKEN)
        deeds.clear()
        self.assertEqual(book.run, TAKEN)

    def test_the_plan_stays(self):
        plan = shop()
        book = book_of(plan, AGAIN)
        book.undo()
        self.assertEqual(plan, shop())
        other = book_of(plan, HELD)
        self.assertEqual([book.run, other.run], [TAKEN, HELD])

    def test_its_own_run_may_be_written(self):
        book = book_of(shop(), TAKEN)
        self.assertEqual([Book(shop()).write(book.run), totals(shop(), book.run)], [[5, 2], [5, 2]])
        self.check_raises(("UnknownStep", "hold"), book, book.write, book.run)
        lone = book_of(shop(), HELD[:1])
        self.assertEqual([lone.write(lone.run), lone.run], [[0, 0], HELD[:1] * 2])

    def test_great_amounts(self):
        book = book_of(shop(), [("new", "hold", MOST), ("step", 0, "hold"), ("new", "take", MOST), ("step", 1, "take")])
        self.check_raises(("Refused", 0), book, book, 1, "again")
        self.assertEqual([book.balance, book.parts[1]], [[MOST, MOST], ("take", MOST, 1)])

    def test_totals_below_zero(self):
        book = Book(Plan(["a"], [("k", [{}, {"a": -2}], [("go", 0, 1)])], []))
        book.new("k", 3)
        self.assertEqual([book(0, "go"), book.balance], [[-6], [-6]])


if __name__ == "__main__":
    unittest.main()
