"""Books: live parts of a plan, moved step by step, or by whole lists of deeds, and taken back."""

from paidinparts.course import Course
from paidinparts.errors import NothingToUndo
from paidinparts.sums import numbers_of


class Book:
    """Live parts of a plan."""

    def __init__(self, plan):
        self._plan = plan
        self._course = Course(plan, [0] * len(plan.columns))

    def new(self, kind, amount):
        """Make a part and return its number."""
        return self._course.make(kind, amount)

    def __call__(self, part, name):
        """Do a step of a part and return the list of the totals after it."""
        self._course.move(part, name, [])
        return self._course.reached()

    @property
    def parts(self):
        """The list of the parts as tuples (kind, amount, state)."""
        return self._course.placed()

    @property
    def balance(self):
        """The list of the totals."""
        return self._course.reached()

    @property
    def run(self):
        """The list of the deeds that were done and not taken back."""
        return self._course.done()

    def able(self, part):
        """Return the ascending list of the names of the steps of a part that are not refused now."""
        return self._course.able(part, [])

    def write(self, deeds):
        """Do the deeds of a list, or none of them if one raises an error, and return the list of the totals."""
        self._course.do_all(deeds, [])
        return self._course.reached()

    def undo(self):
        """Take back the last deed of the run."""
        if not self.run:
            raise NothingToUndo(0)
        self._course.take_back()

    def __len__(self):
        """The number of deeds of the run."""
        return len(self.run)

    def __eq__(self, other):
        if not isinstance(other, Book) or isinstance(other, SureBook):
            return False
        return self._plan == other._plan and self.run == other.run


class SureBook(Book):
    """A book by which a wish is never broken."""

    def __init__(self, plan, wish):
        super().__init__(plan)
        self._wish = numbers_of(plan.columns, wish)

    def __call__(self, part, name):
        """Do a step of a part and return the list of the totals after it."""
        self._course.move(part, name, [self._wish])
        return self._course.reached()

    def able(self, part):
        """Return the ascending list of the names of the steps of a part that nothing refuses now, nor the wish."""
        return self._course.able(part, [self._wish])

    def write(self, deeds):
        """Do the deeds of a list, or none of them if one raises an error, and return the list of the totals."""
        self._course.do_all(deeds, [self._wish])
        return self._course.reached()

    def __eq__(self, other):
        if not isinstance(other, SureBook):
            return False
        return self._plan == other._plan and self.run == other.run and self._wish == other._wish
