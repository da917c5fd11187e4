"""Sums over columns, as lists of numbers in the order of the columns."""

from paidinparts.errors import UnknownColumn


def numbers_of(columns, table):
    """Return the numbers of a dict in the order of the columns, with 0 for each column that is not in it.

    Raise UnknownColumn(key) for the first key in ascending order that is no column, whatever its number is.
    """
    for column in sorted(table):
        if column not in columns:
            raise UnknownColumn(column)
    return [table.get(column, 0) for column in columns]


def value_of(factors, counts):
    """Return the value of a sum with these factors where the columns have these counts or totals."""
    return sum([factor * count for factor, count in zip(factors, counts)])
