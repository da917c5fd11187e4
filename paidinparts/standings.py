"""Standings: which states and steps of a plan can come about, and which sums can rise."""

from paidinparts.layers import Layers
from paidinparts.sums import numbers_of


def open_states(plan):
    """Return the list of tuples (kind, state) of the open states."""
    return Layers(plan).states()


def open_steps(plan):
    """Return the list of tuples (kind, name, from) of the open steps."""
    layers = Layers(plan)
    return [
        (kind, name, source)
        for kind, _, steps in plan.kinds
        for name, source, target in steps
        if layers.is_open(kind, source, target)
    ]


def can_rise(plan, total):
    """Return True if some run ends with a value of a sum above 0, otherwise False."""
    factors = numbers_of(plan.columns, total)
    _, parts = Layers(plan).outcome(factors)
    return parts is not None


def run_to(plan, kind, state):
    """Return a run at whose end some part of a kind is in a state, or None if the state is not open."""
    # Only for its errors: a strange kind, or an index of no state.
    plan.value_at(kind, state, {})
    layers = Layers(plan)
    if (kind, state) not in layers.states():
        return None
    parts = [((kind, state), 1)]
    return layers.deeds(layers.lift_for(parts) + parts)
