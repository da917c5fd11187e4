"""Least sets of checks, and of barred steps, with which a wish is kept."""

from itertools import combinations

from paidinparts.sums import numbers_of
from paidinparts.wishes import is_kept


def least_checks(plan, wish, offered):
    """Return the list of all least sets of offered checks, as indexes, with which a wish is kept."""
    for total in [wish] + offered:
        numbers_of(plan.columns, total)
    return least_sets(len(offered), lambda chosen: is_kept(plan.with_checks([offered[at] for at in chosen]), wish))


def least_bars(plan, wish):
    """Return the list of all least sets of tuples (kind, name) without whose steps a wish is kept."""
    pairs = pairs_of(plan)
    found = least_sets(len(pairs), lambda chosen: is_kept(plan.without_steps([pairs[at] for at in chosen]), wish))
    return [[pairs[index] for index in least] for least in found]


def pairs_of(plan):
    """Return the tuples (kind, name) of all steps, each once, where it stands first."""
    pairs = []
    for kind, _, steps in plan.kinds:
        for step in steps:
            if (kind, step[0]) not in pairs:
                pairs.append((kind, step[0]))
    return pairs


def least_sets(many, is_enough):
    """Return all sets of numbers below `many` that are enough while no proper subset is, ascending, in their order."""
    found = []
    for size in range(many + 1):
        for chosen in combinations(range(many), size):
            # What is enough stays enough with more numbers, so a set in which an earlier one is need not be tried.
            if not any([all([at in chosen for at in least]) for least in found]) and is_enough(chosen):
                found.append(list(chosen))
    return found
