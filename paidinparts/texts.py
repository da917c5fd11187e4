"""Texts of sums, of lists of deeds and of plans."""

from paidinparts.sums import numbers_of


def show_sum(plan, total):
    """Return the factors of a sum that are not 0, each with its column, in the order of the columns."""
    columns = plan.columns
    factors = numbers_of(columns, total)
    shown = [f"{factor}{column}" for column, factor in zip(columns, factors) if factor != 0]
    return " ".join(shown) if shown else "0"


def show_run(deeds):
    """Return the text of a list of deeds."""
    return "; ".join([" ".join([str(entry) for entry in deed]) for deed in deeds])


def show_plan(plan):
    """Return the text of a plan."""
    sections = [show_words("columns", plan.columns)]
    for name, rows, steps in plan.kinds:
        states = [show_numbers(row) for row in rows]
        sections.append(show_words("kind", [name] + states + [show_step(step) for step in steps]))
    sections.extend([show_words("check", [show_numbers(factors)]) for factors in plan.checks])
    return "; ".join(sections)


def show_words(head, words):
    """Return a word and those that belong to it, separated by spaces."""
    return " ".join([head] + words)


def show_numbers(numbers):
    """Return integers in square brackets, separated by commas."""
    return "[" + ",".join([str(number) for number in numbers]) + "]"


def show_step(step):
    """Return the text of a step of a kind."""
    name, source, target = step
    return f"{name}({source},{target})"
