"""Factors between two sums, as exact fractions."""

from paidinparts.layers import layers_of
from paidinparts.simplex import greatest, lowest_terms
from paidinparts.sums import numbers_of


def least_factor(plan, one, other):
    """Return the least fraction (top, bottom) of at least 0 by which one sum is never above another, or None."""
    first = numbers_of(plan.columns, one)
    second = numbers_of(plan.columns, other)
    layers = layers_of(plan)
    places = layers.open_places()
    goal, limit = layers.field.values_of(first), layers.field.values_of(second)
    # How great the first sum gets while the second one is at most 1: the price of this bound is the fraction.
    rows = layers.rows_of_checks(places) + [[limit[place] for place in places]]
    prices, _ = greatest(rows, [0] * (len(rows) - 1) + [1], [goal[place] for place in places])
    if prices is None:
        return None
    top, bottom = lowest_terms([prices[-1], prices[0]])
    return top, bottom
