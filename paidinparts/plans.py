"""Plans: columns, kinds of parts with states and steps, and checks."""

from paidinparts.errors import DoubleName, DoubleStep, InvalidName, InvalidStart, InvalidStep, NoState, UnknownKind
from paidinparts.sums import numbers_of, value_of

LETTERS = "abcdefghijklmnopqrstuvwxyz"
MOST_LETTERS = 8


def is_name(text):
    """Return True if a string is a name, otherwise False."""
    return 1 <= len(text) <= MOST_LETTERS and all([sign in LETTERS for sign in text])


def require_name(text):
    """Raise InvalidName(text) if a string is no name."""
    if not is_name(text):
        raise InvalidName(text)


def require_new_name(text, earlier):
    """Raise an error if a string is no name, or if it stands among the earlier names."""
    require_name(text)
    if text in earlier:
        raise DoubleName(text)


def checked_columns(columns):
    """Return a new list of the columns, or raise the first error in them."""
    known = {}
    for name in columns:
        require_new_name(name, known)
        known[name] = True
    return list(known)


def checked_rows(columns, kind, states):
    """Return the list of counts of each state of a kind, or raise the first error in the states."""
    if not states:
        raise NoState(kind)
    rows = [numbers_of(columns, counts) for counts in states]
    if rows[0] != [0] * len(columns):
        raise InvalidStart(kind)
    return rows


def checked_steps(size, steps):
    """Return a new list of the steps of a kind with `size` states, or raise the first error in them."""
    begun = {}
    for step in steps:
        name, source, target = step
        require_name(name)
        if not (0 <= source < size and 0 <= target < size):
            raise InvalidStep(step)
        if (name, source) in begun:
            raise DoubleStep(step)
        begun[(name, source)] = True
    return list(steps)


def checked_kinds(columns, kinds):
    """Return the kinds with counts in the order of the columns, or raise the first error in them."""
    known = {}
    made = []
    for name, states, steps in kinds:
        require_new_name(name, known)
        known[name] = True
        rows = checked_rows(columns, name, states)
        made.append((name, rows, checked_steps(len(rows), steps)))
    return made


class Plan:
    """Columns, kinds of parts and checks. A plan never changes."""

    def __init__(self, columns, kinds, checks):
        self._columns = checked_columns(columns)
        self._kinds = checked_kinds(self._columns, kinds)
        self._checks = [numbers_of(self._columns, check) for check in checks]

    @property
    def columns(self):
        """The list of the columns."""
        return list(self._columns)

    @property
    def kinds(self):
        """The list of tuples (name, states, steps), with the counts of each state in the order of the columns."""
        return [(name, [list(row) for row in rows], list(steps)) for name, rows, steps in self._kinds]

    @property
    def checks(self):
        """The list of the checks, each as the list of its factors in the order of the columns."""
        return [list(factors) for factors in self._checks]

    def __eq__(self, other):
        if not isinstance(other, Plan):
            return False
        return (
            self._columns == other._columns
            and self._kinds == other._kinds
            and self._checks == other._checks
        )

    def value_at(self, kind, state, total):
        """Return the value of a sum at a state of a kind."""
        rows = self._rows_of(kind)
        if not 0 <= state < len(rows):
            raise NoState(state)
        return value_of(numbers_of(self._columns, total), rows[state])

    def with_checks(self, checks):
        """Return the plan with these checks behind its own."""
        return Plan(self._columns, self._passed_kinds(), self._passed_checks() + checks)

    def without_steps(self, bars):
        """Return the plan without the steps that the tuples (kind, name) name."""
        kinds = [
            (kind, states, [step for step in steps if (kind, step[0]) not in bars])
            for kind, states, steps in self._passed_kinds()
        ]
        return Plan(self._columns, kinds, self._passed_checks())

    def _rows_of(self, kind):
        for name, rows, _ in self._kinds:
            if name == kind:
                return rows
        raise UnknownKind(kind)

    def _passed_kinds(self):
        """Return the kinds in the form in which the class takes them."""
        return [(kind, [self._passed(row) for row in rows], steps) for kind, rows, steps in self._kinds]

    def _passed_checks(self):
        """Return the checks in the form in which the class takes them."""
        return [self._passed(factors) for factors in self._checks]

    def _passed(self, numbers):
        return dict(zip(self._columns, numbers))
