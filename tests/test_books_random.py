"""books.py for many random plans and deeds, against a second reading of the document, and at the limits of [2]."""

import random
import time
import unittest

from paidinparts.books import Book, SureBook
from paidinparts.plans import Plan
from paidinparts.runs import is_run, totals, values_along

from tests.test_limits import large, names
from tests.tools import (
    first_wrong, parts_after, raised, random_deed, random_parts, random_table, totals_at, value_at_totals,
)  # fmt: skip

SECONDS = 10


class Model:
    """A book from the words of the document: each answer is worked out anew from the whole run."""

    def __init__(self, columns, kinds, checks, wish=None):
        self.columns, self.kinds, self.checks, self.wish = columns, kinds, checks, wish
        self.run = []

    def parts(self, deeds):
        return [tuple(part) for part in parts_after(self.kinds, deeds)]

    def balance(self, deeds):
        return totals_at(self.columns, self.kinds, self.parts(deeds))

    def error(self, deeds, deed):
        """The error of a deed behind some others, or None."""
        word, subject, detail = deed
        if word == "new":
            if subject not in [kind for kind, _, _ in self.kinds]:
                return ("UnknownKind", subject)
            return ("InvalidAmount", detail) if detail < 1 else None
        parts = self.parts(deeds)
        if subject not in range(len(parts)):
            return ("UnknownPart", subject)
        after = parts_after(self.kinds, deeds + [deed])
        if after is None:
            return ("UnknownStep", detail)
        reached = totals_at(self.columns, self.kinds, after)
        for index, check in enumerate(self.checks):
            if value_at_totals(self.columns, reached, check) < 0:
                return ("Refused", index)
        if self.wish is not None and value_at_totals(self.columns, reached, self.wish) < 0:
            return ("WishBroken", value_at_totals(self.columns, reached, self.wish))
        return None

    def first_error(self, deeds):
        """The error of the first deed of a list that raises one, or None."""
        for many, deed in enumerate(deeds):
            error = self.error(self.run + deeds[:many], deed)
            if error is not None:
                return error
        return None

    def able(self, part):
        """The names of the steps of a part that are not refused."""
        found = {step[0] for _, _, steps in self.kinds for step in steps}
        return sorted(name for name in found if self.error(self.run, ("step", part, name)) is None)


def some_deed(chance, model):
    """Some deed: often a step that the part in question has."""
    parts = model.parts(model.run)
    if not parts or chance.random() < 0.5:
        return random_deed(chance, len(parts))
    part = chance.randrange(len(parts))
    free = model.able(part)
    return ("step", part, chance.choice(free)) if free else ("step", part, chance.choice(["go", "back", "hear"]))


class Random(unittest.TestCase):
    def check_told(self, book, model):
        self.assertEqual([book.run, len(book)], [model.run, len(model.run)])
        self.assertEqual([book.parts, book.balance], [model.parts(model.run), model.balance(model.run)])
        for part in range(len(book.parts)):
            self.assertEqual(book.able(part), model.able(part))

    def do(self, book, model, deed):
        """Do a deed by its call in both, and compare what comes of it."""
        error = model.first_error([deed])
        call = book.new if deed[0] == "new" else book
        if error is None:
            model.run.append(deed)
            wanted = model.balance(model.run) if deed[0] == "step" else len(model.parts(model.run)) - 1
            self.assertEqual(call(*deed[1:]), wanted)
        else:
            self.assertEqual(raised(call, *deed[1:]), error)

    def write(self, book, model, deeds):
        error = model.first_error(deeds)
        if error is None:
            model.run.extend(deeds)
            self.assertEqual(book.write(deeds), model.balance(model.run))
        else:
            self.assertEqual(raised(book.write, deeds), error)

    def play(self, chance, book, model):
        """Do, write and take back at random; return the book's run."""
        for _ in range(chance.randint(1, 25)):
            turn = chance.random()
            if turn < 0.65:
                self.do(book, model, some_deed(chance, model))
            elif turn < 0.8:
                self.write(book, model, [some_deed(chance, model) for _ in range(chance.randint(0, 3))])
            elif model.run:
                model.run.pop()
                self.assertIsNone(book.undo())
            else:
                self.assertEqual(raised(book.undo), ("NothingToUndo", 0))
            self.check_told(book, model)
        return book.run

    def test_books(self):
        chance = random.Random(31)
        for _ in range(150):
            parts = random_parts(chance)
            plan = Plan(*parts)
            run = self.play(chance, Book(plan), Model(*parts))
            self.assertIs(is_run(plan, run), True)
            self.assertIsNone(first_wrong(*parts, run))

    def test_sure_books(self):
        chance = random.Random(32)
        for _ in range(150):
            parts = random_parts(chance)
            wish = random_table(chance, parts[0], -2, 3)
            plan = Plan(*parts)
            run = self.play(chance, SureBook(plan, wish), Model(*parts, wish))
            self.assertGreaterEqual(min(values_along(plan, run, wish)), 0)

    def test_equality(self):
        chance = random.Random(33)
        for _ in range(100):
            parts = random_parts(chance)
            wish = random_table(chance, parts[0], 0, 1)
            one, other = SureBook(Plan(*parts), wish), SureBook(Plan(*parts), dict(wish))
            self.play(chance, one, Model(*parts, wish))
            self.assertIs(one == other, one.run == [])
            other.write(one.run)
            self.assertIs(one == other, True)
            plain = Book(Plan(*parts))
            plain.write(one.run)
            self.assertEqual([plain == one, one == plain, plain != one, one != plain], [False, False, True, True])


class Limits(unittest.TestCase):
    def setUp(self):
        self.begun = time.perf_counter()

    def tearDown(self):
        self.assertLess(time.perf_counter() - self.begun, SECONDS)

    def fill(self, book, many):
        """Write this many deeds, half of them new parts."""
        kinds = names(8)
        for part in range(many // 2):
            book.write([("new", kinds[part % 8], 10**60 - 1), ("step", part, "columnaa")])

    def test_large_books(self):
        plan = Plan(*large(12, 8, 5, 5, 8, 10**12 - 1))
        wish = {column: 1 for column in plan.columns}
        for book in [Book(plan), SureBook(plan, wish)]:
            self.fill(book, 200)
            self.assertEqual([len(book), len(book.parts)], [200, 100])
            self.assertEqual(book.balance, [100 * (10**60 - 1) * (10**12 - 1)] * 12)
            self.assertEqual([book.able(part) for part in range(100)], [["columnaa"]] * 100)
            for _ in range(200):
                book.undo()
            self.assertEqual(raised(book.undo), ("NothingToUndo", 0))
            self.assertEqual([book.run, book.parts, book.balance], [[], [], [0] * 12])

    def test_a_part_with_forty_steps(self):
        plan = Plan(*large(12, 1, 40, 40, 8, 10**12 - 1))
        turned = Plan(plan.columns, [("k", [{}, {}], [(name, 0, 1) for name in names(40)])], [])
        book = Book(turned)
        book.new("k", 1)
        self.assertEqual([book.able(0), book(0, names(40)[7]), book.able(0)], [names(40), [0] * 12, []])
        line = Book(plan)
        line.new(names(1)[0], 3)
        for _ in range(39):
            self.assertEqual(line.able(0), [names(1)[0]])
            line(0, names(1)[0])
        self.assertEqual([line.parts[0][2], line.balance], [39, [3 * (10**12 - 39)] * 12])

    def test_long_runs(self):
        plan = Plan(*large(12, 8, 5, 5, 8, 10**12 - 1))
        run = [deed for part in range(500) for deed in [("new", names(8)[part % 8], 7), ("step", part, "columnaa")]]
        for book in [Book(plan), SureBook(plan, {plan.columns[0]: 1})]:
            self.assertEqual(book.write(run), totals(plan, run))
            self.assertEqual(raised(book.write, run[:999] + [("step", 9999, "no")]), ("UnknownPart", 9999))
            self.assertEqual([len(book), book.run == run], [1000, True])
            for _ in range(300):
                book.undo()
            self.assertEqual([len(book), book.balance], [700, totals(plan, run[:700])])

    def test_beyond_the_limits(self):
        plan = Plan(*large(40, 12, 60, 90, 20, 10**30))
        book = Book(plan)
        self.fill(book, 1000)
        self.assertEqual([len(book), book.balance], [1000, [500 * (10**60 - 1) * 10**30] * 40])
        for _ in range(1000):
            book.undo()
        self.assertEqual(len(book), 0)


if __name__ == "__main__":
    unittest.main()
