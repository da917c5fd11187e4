"""Courses: what parts are there and what the columns come to, while deeds are done and taken back."""

from paidinparts.errors import InvalidAmount, PartError, Refused, UnknownKind, UnknownPart, UnknownStep, WishBroken
from paidinparts.sums import value_of


class Course:
    """The deeds that were done, and the parts and the totals of the columns behind them.

    The totals at the beginning may come from other parts, which these deeds do not move. Each wish that is given for a
    deed is a list of factors, as a check is; it refuses steps too, but only behind all checks.
    """

    def __init__(self, plan, reached):
        kinds = plan.kinds
        self._rows = {kind: rows for kind, rows, _ in kinds}
        self._targets = {
            (kind, name, source): target for kind, _, steps in kinds for name, source, target in steps
        }
        self._bounds = plan.checks
        self._placed = []
        self._reached = list(reached)
        self._done = []
        # The totals ahead of each deed, and the state from which it moved a part.
        self._before = []

    def reached(self):
        """Return the list of the totals now."""
        return list(self._reached)

    def placed(self):
        """Return the list of the parts now, as tuples (kind, amount, state)."""
        return list(self._placed)

    def done(self):
        """Return the list of the deeds that were done and not taken back."""
        return list(self._done)

    def do(self, deed, wishes):
        """Do a deed, or raise the error for which it cannot be done now."""
        word, subject, detail = deed
        if word == "new":
            self.make(subject, detail)
        else:
            self.move(subject, detail, wishes)

    def do_all(self, deeds, wishes):
        """Do deeds one after the other, or none of them if one raises an error."""
        earlier = len(self._done)
        try:
            for deed in deeds:
                self.do(deed, wishes)
        except PartError:
            while len(self._done) > earlier:
                self.take_back()
            raise

    def make(self, kind, amount):
        """Make a part in state 0 and return its number."""
        if kind not in self._rows:
            raise UnknownKind(kind)
        if amount < 1:
            raise InvalidAmount(amount)
        self._note(("new", kind, amount), 0)
        self._placed.append((kind, amount, 0))
        return len(self._placed) - 1

    def move(self, part, name, wishes):
        """Do the step of a part with this name."""
        kind, amount, source = self._part_at(part)
        if (kind, name, source) not in self._targets:
            raise UnknownStep(name)
        target = self._targets[(kind, name, source)]
        after = self._totals_behind(part, target)
        self._require(after, wishes)
        self._note(("step", part, name), source)
        self._placed[part] = (kind, amount, target)
        self._reached = after

    def able(self, part, wishes):
        """Return the ascending list of the names of the steps of a part that are not refused now."""
        kind, _, state = self._part_at(part)
        limits = self._bounds + wishes
        free = []
        for (owner, name, source), target in self._targets.items():
            if (owner, source) == (kind, state) and first_below(limits, self._totals_behind(part, target)) is None:
                free.append(name)
        return sorted(free)

    def take_back(self):
        """Take back the last deed, of which there is one."""
        word, part, _ = self._done.pop()
        self._reached, state = self._before.pop()
        if word == "new":
            self._placed.pop()
        else:
            kind, amount, _ = self._placed[part]
            self._placed[part] = (kind, amount, state)

    def _part_at(self, part):
        # A list would take a part below 0 as one counted from its end.
        if not 0 <= part < len(self._placed):
            raise UnknownPart(part)
        return self._placed[part]

    def _totals_behind(self, part, target):
        """Return the totals if a part left its state for another one."""
        kind, amount, source = self._placed[part]
        left, entered = self._rows[kind][source], self._rows[kind][target]
        return [total + amount * (new - old) for total, old, new in zip(self._reached, left, entered)]

    def _require(self, after, wishes):
        """Raise an error if some check or wish is below 0 at these totals."""
        limits = self._bounds + wishes
        at = first_below(limits, after)
        if at is None:
            return
        if at < len(self._bounds):
            raise Refused(at)
        raise WishBroken(value_of(limits[at], after))

    def _note(self, deed, state):
        self._done.append(deed)
        self._before.append((self._reached, state))


def first_below(limits, reached):
    """Return the index of the first list of factors whose value is below 0 at these totals, or None."""
    for at, factors in enumerate(limits):
        if value_of(factors, reached) < 0:
            return at
    return None
