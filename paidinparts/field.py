"""The states and steps of a plan as numbers, with the values of sums at the states."""


class Field:
    """The states of all kinds, numbered on as places, the steps between places, and the values of checks at places."""

    def __init__(self, kinds, bounds):
        # The kind and the state of each place, its counts, and the places of the states 0.
        self.places = []
        self.rows = []
        self.starts = []
        walks = []
        for kind, rows, steps in kinds:
            first = len(self.rows)
            self.starts.append(first)
            self.places.extend([(kind, state) for state in range(len(rows))])
            self.rows.extend(rows)
            walks.extend([(name, first + source, first + target) for name, source, target in steps])
        self.names = [name for name, _, _ in walks]
        self.worths = [self.values_of(factors) for factors in bounds]
        # Each step as its number, the place where it is done, the place to which it leads, and the checks that it
        # lowers, as an integer with a bit for each of them.
        lowered = [0] * len(walks)
        for at, worths in enumerate(self.worths):
            lowered = [
                bits + (1 << at) if worths[target] < worths[source] else bits
                for bits, (_, source, target) in zip(lowered, walks)
            ]
        self.steps = [
            (number, source, target, bits) for number, (bits, (_, source, target)) in enumerate(zip(lowered, walks))
        ]

    def values_of(self, factors):
        """Return the list of the values of a sum at all places."""
        values = [0] * len(self.rows)
        for at, factor in enumerate(factors):
            if factor != 0:
                values = [value + factor * row[at] for value, row in zip(values, self.rows)]
        return values


def bits_of(marks):
    """Return the integer whose bits are set where a list has True."""
    bits = 0
    for at, mark in enumerate(marks):
        if mark:
            bits += 1 << at
    return bits


def numbers_in(bits):
    """Return the ascending list of the numbers of the bits that are set in an integer."""
    return [at for at in range(bits.bit_length()) if bits >> at & 1]
