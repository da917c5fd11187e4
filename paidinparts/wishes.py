"""Wishes: whether a sum stays at least 0, with multipliers that show it, or with a break."""

from paidinparts.layers import layers_of, value_of_parts
from paidinparts.lifts import Lift
from paidinparts.runs import end_of
from paidinparts.sums import numbers_of, value_of


def negative_of(plan, wish):
    """Return the factors of a wish with all signs changed: the wish is kept if this cannot rise above 0."""
    return [-factor for factor in numbers_of(plan.columns, wish)]


def is_kept(plan, wish):
    """Return True if a wish is kept, otherwise False."""
    negative = negative_of(plan, wish)
    layers = layers_of(plan)
    prices, _ = layers.outcome(layers.field.values_of(negative))
    return prices is not None


def multipliers(plan, wish):
    """Return multipliers (factor, numbers) of a wish, or None if there are none."""
    negative = negative_of(plan, wish)
    layers = layers_of(plan)
    prices, _ = layers.outcome(layers.field.values_of(negative))
    if prices is None:
        return None
    return prices[0], prices[1:]


def judge_multipliers(plan, wish, told):
    """Return True if a tuple (factor, numbers) is multipliers of a wish, otherwise False."""
    wanted = numbers_of(plan.columns, wish)
    factor, numbers = told
    bounds = plan.checks
    if factor < 1 or len(numbers) != len(bounds) or any([number < 0 for number in numbers]):
        return False
    # What the wish is, many times, above the checks, many times: a sum itself, and nowhere below 0.
    above = [factor * wanted[at] - value_of(numbers, [check[at] for check in bounds]) for at in range(len(wanted))]
    layers = layers_of(plan)
    values = layers.field.values_of(above)
    return all([values[place] >= 0 for place in layers.open_places()])


def broken(plan, wish):
    """Return a break (opening, round, times) of a wish, or None if it is kept."""
    negative = negative_of(plan, wish)
    layers = layers_of(plan)
    values = layers.field.values_of(negative)
    _, parts = layers.outcome(values)
    if parts is None:
        return None
    lift = Lift(layers)
    opening = lift.parts_for(parts)
    start, fall = -value_of_parts(values, opening), value_of_parts(values, parts)
    return lift.deeds(opening), lift.deeds(parts), max(0, start // fall + 1)


def judge_broken(plan, wish, told):
    """Return True if a tuple (opening, round, times) is a break of a wish, otherwise False."""
    factors = numbers_of(plan.columns, wish)
    reached = end_of_break(plan, told)
    return reached is not None and value_of(factors, reached) < 0


def end_of_break(plan, told):
    """Return the totals after the opening and all copies of the round, or None if they are no run."""
    opening, lap, times = told
    start = end_of(plan, [0] * len(plan.columns), opening)
    if times < 1 or start is None:
        return start if times == 0 else None
    once = end_of(plan, start, lap)
    if once is None:
        return None
    # Each copy changes the totals alike, so the checks are least in the first copy or in the last one.
    before_last = [old + (times - 1) * (new - old) for old, new in zip(start, once)]
    return end_of(plan, before_last, lap)


def unrolled(told):
    """Return the run of a break: its opening and the copies of its round, with the parts numbered on."""
    opening, lap, times = told
    run = list(opening)
    # An empty round may have to be copied more often than can be counted to.
    if not lap:
        return run
    made, more = count_new(opening), count_new(lap)
    for turn in range(times):
        run.extend(moved_on(lap, made + turn * more))
    return run


def count_new(deeds):
    """Return how many parts some deeds make."""
    return len([deed for deed in deeds if deed[0] == "new"])


def moved_on(deeds, first):
    """Return deeds whose part 0 has the number `first`."""
    return [("step", deed[1] + first, deed[2]) if deed[0] == "step" else deed for deed in deeds]
