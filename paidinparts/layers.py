"""The open states of a plan, found layer by layer, with ways to them and with parts that lift the checks."""

from paidinparts.simplex import greatest
from paidinparts.sums import value_of


class Layers:
    """The open states of a plan.

    In the first layer only steps that lower no check are done. Parts in the states to which these lead may lift some
    checks above 0. Behind parts that are great enough, steps that lower lifted checks are not refused for small parts:
    this is the next layer, where more states may be reached and more checks lifted.
    """

    def __init__(self, plan):
        self._width = len(plan.columns)
        self._bounds = plan.checks
        self._steps = [(kind, step) for kind, _, steps in plan.kinds for step in steps]
        # The counts of each state, and the values of the checks at it.
        self._rows = {(kind, state): row for kind, rows, _ in plan.kinds for state, row in enumerate(rows)}
        self._worths = {place: [value_of(check, row) for check in self._bounds] for place, row in self._rows.items()}
        # The steps from state 0 to each open state, as tuples (name, state to which it leads).
        self._ways = {(kind, 0): [] for kind, _, _ in plan.kinds}
        # The parts that lift the checks, as tuples ((kind, state), amount), and the values to which they lift them.
        self._lift = []
        self._heights = [0] * len(self._bounds)
        self._spread()
        while self._lift_more():
            self._spread()

    def states(self):
        """Return the list of the open states as tuples (kind, state), in the order of the plan."""
        return [place for place in self._rows if place in self._ways]

    def is_open(self, kind, source, target):
        """Return True if a step of a kind from one state to another is open, otherwise False."""
        if (kind, source) not in self._ways:
            return False
        before, after = self._worths[(kind, source)], self._worths[(kind, target)]
        return all([new >= old or height > 0 for old, new, height in zip(before, after, self._heights)])

    def values_of(self, factors):
        """Return the list of the values of a sum at the open states."""
        return [value_of(factors, self._rows[place]) for place in self.states()]

    def rows_of_checks(self):
        """Return a list for each check, of its negative values at the open states: parts bring none of them above 0."""
        states = self.states()
        return [[-self._worths[place][at] for place in states] for at in range(len(self._bounds))]

    def outcome(self, factors):
        """Return (prices, parts) of a sum, one of them None.

        If the sum cannot rise above 0: a bottom of at least 1 and, behind it, a number of at least 0 for each check,
        such that at no open state the bottom times the sum is above the negative of the numbers times the checks.
        Otherwise: parts with which the sum is above 0 and no check is below 0, as tuples ((kind, state), amount).
        """
        prices, amounts = greatest(self.rows_of_checks(), [0] * len(self._bounds), self.values_of(factors))
        if prices is not None:
            return prices, None
        return None, [(place, amount) for place, amount in zip(self.states(), amounts) if amount > 0]

    def lift_for(self, parts):
        """Return the parts behind which these parts can be moved to their states; none if none are needed."""
        return self._lifted(self._scale_for(parts))

    def value_of_parts(self, factors, parts):
        """Return the value of a sum where the parts are in their states."""
        return sum([amount * value_of(factors, self._rows[place]) for place, amount in parts])

    def deeds(self, parts):
        """Return the deeds that make the parts and move them to their states, one part after the other."""
        done = []
        for number, (place, amount) in enumerate(parts):
            done.append(("new", place[0], amount))
            done.extend([("step", number, name) for name, _ in self._ways[place]])
        return done

    def _spread(self):
        """Find ways to all states to which open steps lead."""
        grown = True
        while grown:
            grown = False
            for kind, (name, source, target) in self._steps:
                if (kind, target) not in self._ways and self.is_open(kind, source, target):
                    self._ways[(kind, target)] = self._ways[(kind, source)] + [(name, target)]
                    grown = True

    def _lift_more(self):
        """Lift more checks and return True, or return False if no other check can be lifted."""
        low = [check for check, height in zip(self._bounds, self._heights) if height == 0]
        _, parts = self.outcome([sum([check[at] for check in low]) for at in range(self._width)])
        if parts is None:
            return False
        # The lift stays, even if these parts can do without it, so that what it lifts stays lifted.
        self._lift = self._lifted(max(1, self._scale_for(parts))) + parts
        self._heights = [self.value_of_parts(check, self._lift) for check in self._bounds]
        return True

    def _lifted(self, scale):
        """Return the parts that lift the checks, with amounts so many times as great."""
        return [(place, scale * amount) for place, amount in self._lift if scale > 0]

    def _scale_for(self, parts):
        """Return how many times the lift is needed so that no step is refused while the parts are moved."""
        # A check that is not lifted is lowered by no open step, so it needs nothing.
        return max([0] + [
            (height - 1 - depth) // height for depth, height in zip(self._depths(parts), self._heights) if height > 0
        ])

    def _depths(self, parts):
        """Return the least value of each check, at most 0, while the parts are moved one after the other."""
        least = [0] * len(self._bounds)
        now = list(least)
        for place, amount in parts:
            before = now
            for _, state in self._ways[place]:
                now = [old + amount * worth for old, worth in zip(before, self._worths[(place[0], state)])]
                least = [min(old, new) for old, new in zip(least, now)]
        return least
