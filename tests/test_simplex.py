"""simplex.py: not part of the interface; greatest values against all corners, and directions by what they do."""

import itertools
import random
import unittest
from fractions import Fraction

from paidinparts.simplex import greatest, lowest_terms


def times(row, numbers):
    """A row times numbers."""
    return sum(one * other for one, other in zip(row, numbers))


def solved(lines, ends):
    """The numbers that bring each line to its end, or None if there are none or several."""
    many = len(lines)
    left = [[Fraction(worth) for worth in line] + [Fraction(end)] for line, end in zip(lines, ends)]
    for at in range(many):
        lead = next((row for row in range(at, many) if left[row][at] != 0), None)
        if lead is None:
            return None
        left[at], left[lead] = left[lead], left[at]
        for row in range(many):
            if row != at:
                by = left[row][at] / left[at][at]
                left[row] = [one - by * other for one, other in zip(left[row], left[at])]
    return [left[at][-1] / left[at][at] for at in range(many)]


def best_corner(rows, bounds, goal):
    """The greatest value of the goal at a corner of what the rows allow."""
    size = len(goal)
    lines = [list(row) for row in rows] + [[int(at == other) for other in range(size)] for at in range(size)]
    ends = list(bounds) + [0] * size
    found = []
    for some in itertools.combinations(range(len(lines)), size):
        corner = solved([lines[at] for at in some], [ends[at] for at in some])
        if corner is not None and min([0, *corner]) >= 0:
            if all(times(row, corner) <= bound for row, bound in zip(rows, bounds)):
                found.append(times(goal, corner))
    return max(found)


class Greatest(unittest.TestCase):
    def judge(self, rows, bounds, goal):
        """Judge an answer by itself and by all corners; return the greatest value, or None."""
        prices, direction = greatest(rows, bounds, goal)
        self.assertIs(prices is None, direction is not None)
        if direction is not None:
            self.assertGreaterEqual(min(direction), 0)
            self.assertEqual(lowest_terms(direction), direction)
            self.assertGreater(times(goal, direction), 0)
            for row in rows:
                self.assertLessEqual(times(row, direction), 0)
            return None
        bottom, numbers = prices[0], prices[1:]
        self.assertGreaterEqual(bottom, 1)
        self.assertEqual([lowest_terms(prices), len(numbers)], [prices, len(rows)])
        self.assertGreaterEqual(min([0, *numbers]), 0)
        for at, worth in enumerate(goal):
            self.assertGreaterEqual(times([row[at] for row in rows], numbers), bottom * worth)
        self.assertEqual(Fraction(times(bounds, numbers), bottom), best_corner(rows, bounds, goal))
        return Fraction(times(bounds, numbers), bottom)

    def test_by_hand(self):
        self.assertEqual(self.judge([[1]], [1], [1]), 1)
        self.assertEqual(self.judge([[3]], [1], [2]), Fraction(2, 3))
        self.assertEqual(self.judge([[1, 1], [1, 3]], [4, 6], [3, 5]), 14)
        self.assertEqual(self.judge([[-1]], [1], [-1]), 0)
        self.assertIsNone(self.judge([[-1]], [1], [1]))
        self.assertIsNone(self.judge([[1, -1]], [1], [1, 0]))
        self.assertIsNone(self.judge([[1, -3], [-1, 2]], [0, 1], [0, 1]))

    def test_without_rows_or_entries(self):
        self.assertEqual(greatest([], [], []), ([1], None))
        self.assertEqual(greatest([[], []], [0, 1], []), ([1, 0, 0], None))
        self.assertEqual(greatest([], [], [-1, 0]), ([1], None))
        self.assertEqual(greatest([], [], [-1, 7]), (None, [0, 1]))

    def test_where_careless_choices_go_in_circles(self):
        # After E. M. L. Beale, with whole numbers: each step has a row of bound 0 in its way.
        rows = [[1, -32, -4, 36], [1, -24, -1, 6], [0, 0, 1, 0]]
        self.assertEqual(self.judge(rows, [0, 0, 1], [3, -80, 2, -24]), 5)

    def test_where_careless_choices_between_equal_rows_go_in_circles(self):
        # Found by trying: with the first, the last, and the row of the greatest entry among equals there is no end.
        rows = [[8, -21, -23, -1, -7], [-15, -15, -17, 21, 9], [-14, 16, 18, 3, -21], [21, -9, 12, 16, -28]]
        self.assertIsNone(self.judge(rows, [0] * 4, [-23, 17, 22, 8, 29]))
        rows = [[0, -3, -7, -6, 4, -7], [-5, -6, 5, 2, -9, 4], [3, -5, 0, -8, 2, -9]]
        self.assertIsNone(self.judge(rows, [0] * 3, [-7, -9, -4, -6, 4, -9]))
        rows = [[-9, 7, -4, -2, -4, -6], [3, -4, -6, -7, -2, 2], [3, 8, 7, 6, -4, -9]]
        self.assertIsNone(self.judge(rows, [0] * 3, [-4, -6, 2, 4, -6, -4]))

    def test_random_rows(self):
        chance = random.Random(3)
        seen = {True: 0, False: 0}
        for _ in range(600):
            size, many = chance.randint(1, 4), chance.randint(0, 4)
            rows = [[chance.randint(-3, 3) for _ in range(size)] for _ in range(many)]
            bounds = [chance.choice([0, 0, 1, 2]) for _ in range(many)]
            seen[self.judge(rows, bounds, [chance.randint(-4, 4) for _ in range(size)]) is None] += 1
        self.assertGreater(min(seen.values()), 100)


if __name__ == "__main__":
    unittest.main()
