"""Standings: which states and steps of a plan can come about, and which sums can rise."""

from paidinparts.layers import layers_of
from paidinparts.lifts import Lift
from paidinparts.sums import numbers_of


def open_states(plan):
    """Return the list of tuples (kind, state) of the open states."""
    layers = layers_of(plan)
    return [layers.field.places[place] for place in layers.open_places()]


def open_steps(plan):
    """Return the list of tuples (kind, name, from) of the open steps."""
    layers = layers_of(plan)
    field = layers.field
    found = []
    for step in field.steps:
        if layers.is_free(step):
            kind, source = field.places[step[1]]
            found.append((kind, field.names[step[0]], source))
    return found


def can_rise(plan, total):
    """Return True if some run ends with a value of a sum above 0, otherwise False."""
    factors = numbers_of(plan.columns, total)
    layers = layers_of(plan)
    _, parts = layers.outcome(layers.field.values_of(factors))
    return parts is not None


def run_to(plan, kind, state):
    """Return a run at whose end some part of a kind is in a state, or None if the state is not open."""
    # Only for its errors: a strange kind, or an index of no state.
    plan.value_at(kind, state, {})
    layers = layers_of(plan)
    place = layers.field.places.index((kind, state))
    if place not in layers.open_places():
        return None
    lift = Lift(layers)
    parts = [(place, 1)]
    return lift.deeds(lift.parts_for(parts) + parts)
