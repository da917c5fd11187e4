"""The errors of the package."""


class PartError(ValueError):
    """Any error of the package; its attribute `value` is what was wrong."""

    def __init__(self, value):
        self.value = value


class InvalidName(PartError):
    """A string that is no name."""


class DoubleName(PartError):
    """A name that stood before."""


class UnknownColumn(PartError):
    """A key that is no column of the plan."""


class UnknownKind(PartError):
    """A string that is no kind of the plan."""


class NoState(PartError):
    """A kind without states, or an index of no state."""


class InvalidStart(PartError):
    """A kind whose state 0 counts something."""


class InvalidStep(PartError):
    """A step from or to a state that is not there."""


class DoubleStep(PartError):
    """A step with the name and the state of an earlier one."""


class InvalidRun(PartError):
    """The index of the first deed that cannot be done."""


class InvalidAmount(PartError):
    """An amount below 1."""


class UnknownPart(PartError):
    """A number of no part."""


class UnknownStep(PartError):
    """A name of no step from the state of a part."""


class Refused(PartError):
    """The index of the first check that refuses a step."""


class WishBroken(PartError):
    """The value below 0 that a wish would have."""


class NothingToUndo(PartError):
    """There is no deed to take back."""


class Unreadable(PartError):
    """A text that nothing has."""
