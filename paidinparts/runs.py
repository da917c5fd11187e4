"""Runs: lists of deeds that a plan allows, and what they come to."""

from paidinparts.course import Course
from paidinparts.errors import InvalidRun, PartError
from paidinparts.sums import numbers_of, value_of


def is_done(course, deed):
    """Do a deed and return True, or change nothing and return False if it cannot be done now."""
    try:
        course.do(deed, [])
    except PartError:
        return False
    return True


def totals_along(plan, deeds):
    """Return the totals at the beginning and after each deed, as far as the deeds are a run."""
    course = Course(plan, [0] * len(plan.columns))
    along = [course.reached()]
    for deed in deeds:
        if not is_done(course, deed):
            return along
        along.append(course.reached())
    return along


def end_of(plan, reached, deeds):
    """Return the totals after deeds that begin at the totals `reached`, or None if one of them cannot be done."""
    course = Course(plan, reached)
    for deed in deeds:
        if not is_done(course, deed):
            return None
    return course.reached()


def totals_of_run(plan, run):
    """Return the totals at the beginning and after each deed of a run, or raise InvalidRun(index)."""
    along = totals_along(plan, run)
    if len(along) <= len(run):
        raise InvalidRun(len(along) - 1)
    return along


def is_run(plan, deeds):
    """Return True if a list of deeds is a run, otherwise False."""
    return len(totals_along(plan, deeds)) > len(deeds)


def totals(plan, run):
    """Return the list of the totals of the columns at the end of a run."""
    return totals_of_run(plan, run)[-1]


def values_along(plan, run, total):
    """Return the list of the values of a sum at the beginning and after each deed of a run."""
    along = totals_of_run(plan, run)
    factors = numbers_of(plan.columns, total)
    return [value_of(factors, reached) for reached in along]
