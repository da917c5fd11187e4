"""The open states of a plan, found layer by layer, and which sums can rise above 0."""

from paidinparts.field import Field
from paidinparts.simplex import greatest


class Layers:
    """The open places of a field by some of its steps, under some of its checks.

    In the first layer only steps that lower no check are done. Parts in the states to which these lead may lift some
    checks above 0. Behind parts that are great enough, steps that lower lifted checks are not refused for small parts:
    this is the next layer, where more states may be reached and more checks lifted.
    """

    def __init__(self, field, steps, checked):
        self.field = field
        # The values of each check at all places.
        self.worths = [field.worths[at] for at in checked]
        # The parts that lift more checks, layer by layer, as tuples (place, amount).
        self.lifts = []
        # The checks that are not lifted, as a step tells those that it lowers.
        self._low = sum([1 << at for at in checked])
        # The step by which each open place is reached first.
        self._came = {start: None for start in field.starts}
        self._spread(steps)
        while self._lift_more(checked):
            self._spread(steps)

    def open_places(self):
        """Return the ascending list of the open places."""
        return sorted(self._came)

    def is_free(self, step):
        """Return True if a step of the field is open, otherwise False."""
        _, source, _, lowered = step
        return source in self._came and not lowered & self._low

    def way_to(self, place):
        """Return the steps of the field that lead from state 0 to an open place."""
        way = []
        step = self._came[place]
        while step is not None:
            way.append(step)
            step = self._came[step[1]]
        return way[::-1]

    def rows_of_checks(self, places):
        """Return a list for each check, of its negative values at some places: parts bring none of them above 0."""
        return [[-worths[place] for place in places] for worths in self.worths]

    def outcome(self, values):
        """Return (prices, parts) of a sum that has these values at all places of the field, one of them None.

        If the sum cannot rise above 0: a bottom of at least 1 and, behind it, a number of at least 0 for each check,
        such that at no open place the bottom times the sum is above the negative of the numbers times the checks.
        Otherwise: parts with which the sum is above 0 and no check is below 0, as tuples (place, amount).
        """
        places = self.open_places()
        rising = [place for place in places if values[place] > 0]
        if not rising:
            return [1] + [0] * len(self.worths), None
        for place in rising:
            if not any([worths[place] < 0 for worths in self.worths]):
                return None, [(place, 1)]
        # A part where neither the sum nor a check is above 0 is of no use.
        useful = [
            place for place in places if values[place] > 0 or any([worths[place] > 0 for worths in self.worths])
        ]
        rows = self.rows_of_checks(useful)
        prices, amounts = greatest(rows, [0] * len(rows), [values[place] for place in useful])
        if prices is not None:
            return prices, None
        return None, [(place, amount) for place, amount in zip(useful, amounts) if amount > 0]

    def _spread(self, steps):
        """Reach all places to which open steps lead."""
        grown = True
        while grown:
            grown = False
            for step in steps:
                if step[2] not in self._came and self.is_free(step):
                    self._came[step[2]] = step
                    grown = True

    def _lift_more(self, checked):
        """Lift more checks and return True, or return False if no other check can be lifted."""
        low = [(at, worths) for at, worths in zip(checked, self.worths) if self._low >> at & 1]
        if not low:
            return False
        rows = [worths for _, worths in low]
        _, parts = self.outcome([sum(column) for column in zip(*rows)])
        if parts is None:
            return False
        self.lifts.append(parts)
        self._low -= sum([1 << at for at, worths in low if value_of_parts(worths, parts) > 0])
        return True


def layers_of(plan):
    """Return the layers of a plan, by all its steps and under all its checks."""
    field = Field(plan.kinds, plan.checks)
    return Layers(field, field.steps, list(range(len(field.worths))))


def value_of_parts(values, parts):
    """Return the value of a sum that has these values at the places, where parts are in theirs."""
    return sum([amount * values[place] for place, amount in parts])
