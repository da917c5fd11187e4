"""Runs: lists of deeds that a plan allows, and what they come to."""

from paidinparts.errors import InvalidRun
from paidinparts.sums import numbers_of, value_of


class Course:
    """The parts and the totals of the columns while deeds are done, one after the other.

    The totals at the beginning may come from other parts, which these deeds do not move.
    """

    def __init__(self, plan, reached):
        kinds = plan.kinds
        self._rows = {kind: rows for kind, rows, _ in kinds}
        self._targets = {
            (kind, name, source): target for kind, _, steps in kinds for name, source, target in steps
        }
        self._bounds = plan.checks
        self._placed = []
        self._reached = list(reached)

    def reached(self):
        """Return the list of the totals now."""
        return list(self._reached)

    def do(self, deed):
        """Do a deed and return True, or change nothing and return False if it cannot be done now."""
        word, subject, detail = deed
        if word == "new":
            return self._new_part(subject, detail)
        return self._do_step(subject, detail)

    def _new_part(self, kind, amount):
        if kind not in self._rows or amount < 1:
            return False
        self._placed.append((kind, amount, 0))
        return True

    def _do_step(self, part, name):
        # A list would take a part below 0 as one counted from its end.
        if not 0 <= part < len(self._placed):
            return False
        kind, amount, source = self._placed[part]
        if (kind, name, source) not in self._targets:
            return False
        target = self._targets[(kind, name, source)]
        rows = self._rows[kind]
        after = moved(self._reached, amount, rows[source], rows[target])
        if any([value_of(factors, after) < 0 for factors in self._bounds]):
            return False
        self._placed[part] = (kind, amount, target)
        self._reached = after
        return True


def moved(totals_before, amount, left, entered):
    """Return the totals after a part of this amount left a state with some counts and entered one with others."""
    return [total + amount * (new - old) for total, old, new in zip(totals_before, left, entered)]


def totals_along(plan, deeds):
    """Return the totals at the beginning and after each deed, as far as the deeds are a run."""
    course = Course(plan, [0] * len(plan.columns))
    along = [course.reached()]
    for deed in deeds:
        if not course.do(deed):
            return along
        along.append(course.reached())
    return along


def end_of(plan, reached, deeds):
    """Return the totals after deeds that begin at the totals `reached`, or None if one of them cannot be done."""
    course = Course(plan, reached)
    for deed in deeds:
        if not course.do(deed):
            return None
    return course.reached()


def totals_of_run(plan, run):
    """Return the totals at the beginning and after each deed of a run, or raise InvalidRun(index)."""
    along = totals_along(plan, run)
    if len(along) <= len(run):
        raise InvalidRun(len(along) - 1)
    return along


def is_run(plan, deeds):
    """Return True if a list of deeds is a run, otherwise False."""
    return len(totals_along(plan, deeds)) > len(deeds)


def totals(plan, run):
    """Return the list of the totals of the columns at the end of a run."""
    return totals_of_run(plan, run)[-1]


def values_along(plan, run, total):
    """Return the list of the values of a sum at the beginning and after each deed of a run."""
    along = totals_of_run(plan, run)
    factors = numbers_of(plan.columns, total)
    return [value_of(factors, reached) for reached in along]
