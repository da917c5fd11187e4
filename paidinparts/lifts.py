"""Ways of parts to open places, behind other parts that lift the checks."""

from paidinparts.layers import value_of_parts


class Lift:
    """The parts that lift all checks that can be lifted, as tuples (place, amount), each moved to its place."""

    def __init__(self, layers):
        self._layers = layers
        self._worths = layers.worths
        self._lifting = []
        self._heights = [0] * len(self._worths)
        for parts in layers.lifts:
            # The lift stays, even if these parts can do without it, so that what it lifts stays lifted.
            self._lifting = self._times(max(1, self._scale_for(parts))) + parts
            self._heights = [value_of_parts(worths, self._lifting) for worths in self._worths]

    def parts_for(self, parts):
        """Return the parts behind which these parts can be moved to their places; none if none are needed."""
        return self._times(self._scale_for(parts))

    def depth(self, worths, parts):
        """Return the least value, at most 0, of a check with these values at the places, while parts are moved."""
        least = before = 0
        for place, amount in parts:
            for _, _, target, _ in self._layers.way_to(place):
                least = min(least, before + amount * worths[target])
            before = before + amount * worths[place]
        return least

    def steps_of(self, parts):
        """Return the steps of the field by which the parts are moved to their places."""
        return [step for place, _ in parts for step in self._layers.way_to(place)]

    def deeds(self, parts):
        """Return the deeds that make the parts and move them to their places, one part after the other."""
        field = self._layers.field
        done = []
        for number, (place, amount) in enumerate(parts):
            done.append(("new", field.places[place][0], amount))
            done.extend([("step", number, field.names[step[0]]) for step in self._layers.way_to(place)])
        return done

    def _times(self, scale):
        """Return the parts that lift the checks, with amounts so many times as great."""
        return [(place, scale * amount) for place, amount in self._lifting if scale > 0]

    def _scale_for(self, parts):
        """Return how many times the lift is needed so that no step is refused while the parts are moved."""
        # A check that is not lifted is lowered by no open step, so it needs nothing.
        return max([0] + [
            (height - 1 - self.depth(worths, parts)) // height
            for worths, height in zip(self._worths, self._heights) if height > 0
        ])
