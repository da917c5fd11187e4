"""The greatest value of a goal over numbers that are bounded by rows, worked out exactly, in integers."""

from math import gcd


class Tableau:
    """A goal over numbers of at least 0, where each row times the numbers is at most its bound of at least 0.

    All its entries are integers over one bottom of at least 1.
    """

    def __init__(self, rows, bounds, goal):
        many = len(rows)
        self._size = len(goal)
        self._bottom = 1
        self._lines = [
            row + [int(at == other) for other in range(many)] + [bound]
            for at, (row, bound) in enumerate(zip(rows, bounds))
        ]
        self._last = [-worth for worth in goal] + [0] * (many + 1)
        self._basis = [self._size + at for at in range(many)]

    def climb(self):
        """Go up to the greatest value and return None, or return the entry that may grow without end."""
        while True:
            entering = self._entering()
            if entering is None:
                return None
            leaving = self._leaving(entering)
            if leaving is None:
                return entering
            self._exchange(leaving, entering)

    def prices(self):
        """Return the bottom, and behind it a number for each row, its price over the bottom at the greatest value."""
        return [self._bottom] + self._last[self._size:-1]

    def direction(self, entering):
        """Return numbers, one for each entry of the goal, in which the goal grows without end and no row does."""
        found = [0] * (self._size + len(self._lines))
        found[entering] = self._bottom
        for line, place in zip(self._lines, self._basis):
            found[place] = -line[entering]
        # Behind the entries of the goal stand the gaps between the rows and their bounds.
        return found[:self._size]

    def _entering(self):
        # Taking the first one here, and the first of equals below, is what keeps the search from going in circles.
        for at, worth in enumerate(self._last[:-1]):
            if worth < 0:
                return at
        return None

    def _leaving(self, entering):
        best = None
        for at, line in enumerate(self._lines):
            if line[entering] > 0 and (best is None or self._is_before(at, best, entering)):
                best = at
        return best

    def _is_before(self, one, other, entering):
        """Return True if a line bounds an entry more than another one, or equally with an earlier number."""
        first, second = self._lines[one], self._lines[other]
        left, right = first[-1] * second[entering], second[-1] * first[entering]
        return left < right or (left == right and self._basis[one] < self._basis[other])

    def _exchange(self, leaving, entering):
        pivot = self._lines[leaving]
        self._lines = [
            pivot if at == leaving else cleared(line, pivot, entering, self._bottom)
            for at, line in enumerate(self._lines)
        ]
        self._last = cleared(self._last, pivot, entering, self._bottom)
        self._basis[leaving] = entering
        self._bottom = pivot[entering]


def cleared(line, pivot, entering, bottom):
    """Return a line without the entry, over the new bottom; each entry is a determinant, so nothing is left over."""
    lead, own = pivot[entering], line[entering]
    return [(lead * worth - own * other) // bottom for worth, other in zip(line, pivot)]


def lowest_terms(numbers):
    """Return numbers, not all of them 0, divided by their greatest common divisor."""
    divisor = 0
    for number in numbers:
        divisor = gcd(divisor, number)
    return [number // divisor for number in numbers]


def greatest(rows, bounds, goal):
    """Return (prices, direction), one of them None.

    If the goal has a greatest value: a bottom of at least 1 and, behind it, numbers of at least 0, one for each row.
    Over the bottom they are the least prices of the rows: the rows times the prices are nowhere below the goal, and the
    bounds times the prices are the greatest value. Otherwise: numbers of at least 0, one for each entry of the goal, in
    which the goal grows and no row does.
    """
    tableau = Tableau(rows, bounds, goal)
    entering = tableau.climb()
    if entering is None:
        return lowest_terms(tableau.prices()), None
    return None, lowest_terms(tableau.direction(entering))
