"""Reading plans and lists of deeds from their texts."""

from paidinparts.errors import PartError, Unreadable
from paidinparts.plans import Plan, require_name
from paidinparts.texts import show_plan

DIGITS = "0123456789"
MOST_DIGITS = 60


def read_plan(text):
    """Return the plan with a text, or raise Unreadable(text) if no plan has it."""
    try:
        plan = plan_of(text)
    except PartError:
        raise Unreadable(text) from None
    # Pieces are taken for what they look like, so only the plan's own text tells that each stood where it belongs.
    if show_plan(plan) != text:
        raise Unreadable(text)
    return plan


def read_run(text):
    """Return the list of deeds with a text, or raise Unreadable(text) if no such list has it."""
    if text == "":
        return []
    try:
        return [deed_of(section) for section in text.split("; ")]
    except PartError:
        raise Unreadable(text) from None


def plan_of(text):
    """Return the plan that the pieces of a text make, or raise an error if they make none."""
    head, *sections = text.split("; ")
    columns = head.split(" ")[1:]
    kinds = [kind_of(columns, section) for section in sections if section.startswith("kind ")]
    checks = [
        table_of(columns, section.removeprefix("check ")) for section in sections if not section.startswith("kind ")
    ]
    return Plan(columns, kinds, checks)


def kind_of(columns, section):
    """Return a kind in the form in which the class Plan takes it."""
    _, name, *words = section.split(" ")
    states = [table_of(columns, word) for word in words if word.startswith("[")]
    steps = [step_of(word) for word in words if not word.startswith("[")]
    return name, states, steps


def table_of(columns, word):
    """Return the dict from columns to the integers in square brackets."""
    inner = word.removeprefix("[").removesuffix("]")
    numbers = [integer_of(piece) for piece in inner.split(",")] if inner else []
    return dict(zip(columns, numbers))


def step_of(word):
    """Return the step of a kind with a text."""
    name, _, ends = word.partition("(")
    numbers = [integer_of(piece) for piece in ends.removesuffix(")").split(",")]
    if len(numbers) != 2:
        raise Unreadable(word)
    return name, numbers[0], numbers[1]


def deed_of(section):
    """Return the deed with a text."""
    words = section.split(" ")
    if len(words) != 3:
        raise Unreadable(section)
    word, subject, detail = words
    if word == "new":
        require_name(subject)
        return word, subject, integer_of(detail)
    if word == "step":
        require_name(detail)
        return word, integer_of(subject), detail
    raise Unreadable(section)


def integer_of(word):
    """Return the integer with a text."""
    digits = word.removeprefix("-")
    if not 1 <= len(digits) <= MOST_DIGITS or any([sign not in DIGITS for sign in digits]):
        raise Unreadable(word)
    number = int(word)
    # Another text of a number, with zeros ahead or a minus sign ahead of 0, is none of an integer.
    if str(number) != word:
        raise Unreadable(word)
    return number
