"""Ready plans."""

from paidinparts.plans import Plan


def payments(*, numbered=True, checked=True):
    """Return a plan of payments: holds, and parts of them that are taken and given back.

    Without numbers, a letter that comes twice is done twice. Without checks, nothing is refused.
    """
    hold = ("hold", [{}, {}, {"held": 1}], [("ask", 0, 1), ("hold", 1, 2)])
    checks = [{"held": 1, "taken": -1}, {"taken": 1, "given": -1}] if checked else []
    return Plan(
        ["held", "taken", "given", "booked", "back"],
        [hold, movement("take", "taken", "booked", numbered), movement("give", "given", "back", numbered)],
        checks,
    )


def movement(name, done, heard, numbered):
    """Return a kind of payment, which the bank knows in the column `done` and the shop in the column `heard`."""
    states = [{}, {}, {done: 1}, {done: 1, heard: 1}]
    steps = [("ask", 0, 1), (name, 1, 2), ("hear", 2, 3)]
    if numbered:
        return name, states, steps
    return name, states + [{done: 2, heard: 1}], steps + [("again", 3, 4)]
