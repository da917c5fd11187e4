"""Least sets of checks, and of barred steps, with which a wish is kept."""

from paidinparts.field import Field, bits_of, numbers_in
from paidinparts.layers import Layers
from paidinparts.lifts import Lift
from paidinparts.sums import numbers_of
from paidinparts.wishes import negative_of


def least_checks(plan, wish, offered):
    """Return the list of all least sets of offered checks, as indexes, with which a wish is kept."""
    columns, own = plan.columns, plan.checks
    negative = negative_of(plan, wish)
    field = Field(plan.kinds, own + [numbers_of(columns, total) for total in offered])
    goal = field.values_of(negative)

    def refusing(chosen):
        """Return the offered checks that refuse some break under the chosen ones, or None if there is no break."""
        layers = Layers(field, field.steps, list(range(len(own))) + [len(own) + at for at in numbers_in(chosen)])
        _, parts = layers.outcome(goal)
        if parts is None:
            return None
        lift = Lift(layers)
        opening = lift.parts_for(parts)
        # What neither the opening nor a round alone brings below 0, all rounds do not.
        return bits_of([
            not chosen >> at & 1 and (lift.depth(worths, opening) < 0 or lift.depth(worths, parts) < 0)
            for at, worths in enumerate(field.worths[len(own):])
        ])

    return least_sets(refusing)


def least_bars(plan, wish):
    """Return the list of all least sets of tuples (kind, name) without whose steps a wish is kept."""
    field = Field(plan.kinds, plan.checks)
    goal = field.values_of(negative_of(plan, wish))
    checked = list(range(len(field.worths)))
    named = [(field.places[source][0], field.names[number]) for number, source, _, _ in field.steps]
    pairs = list({pair: True for pair in named})
    marks = [1 << pairs.index(pair) for pair in named]

    def used(barred):
        """Return the pairs whose steps some break does without the barred ones, or None if there is no break."""
        layers = Layers(field, [step for step in field.steps if not marks[step[0]] & barred], checked)
        _, parts = layers.outcome(goal)
        if parts is None:
            return None
        lift = Lift(layers)
        bits = 0
        for number, _, _, _ in lift.steps_of(lift.parts_for(parts) + parts):
            bits = bits | marks[number]
        return bits

    return [[pairs[at] for at in chosen] for chosen in least_sets(used)]


def least_sets(ask):
    """Return all least sets of numbers that are enough, ascending, in their order.

    While they are looked for, a set is an integer with a bit for each number in it. `ask` returns None for a set that
    is enough, and otherwise a set that has some number of each set that is enough.
    """
    found = []
    waiting = [0]
    while waiting:
        chosen = waiting.pop()
        needed = ask(chosen)
        if needed is None:
            found.append(chosen)
        else:
            waiting = grown(waiting + [chosen], found, needed)
    return sorted([numbers_in(bits) for bits in found], key=lambda numbers: (len(numbers), numbers))


def grown(waiting, found, needed):
    """Return the sets that wait, each with some number of what is needed, without those that have another set in them.

    So the sets that wait, and those that are found, are always all least sets with some number of all that was needed.
    """
    ready = [chosen for chosen in waiting if chosen & needed]
    more = [chosen | 1 << number for chosen in waiting if not chosen & needed for number in numbers_in(needed)]
    return ready + [one for one in more if not any([one & other == other for other in ready + found])]
