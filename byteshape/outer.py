"""Outer numbers: how the bytes of a file make the value of a number of the outermost list.

A position tells where a run is: which item waits, and how far it is, as `Machine.position` says.
"""

from byteshape.errors import InvalidQuestion
from byteshape.machine import Machine
from byteshape.taking import FRESH, weight_of

# What is known of one byte of the values of two runs: the difference so far, or one of these two words.
EQUAL = "equal"
DIFFERENT = "different"


def require_outer(shape, name):
    """Raises UnknownName if no item has this name, and InvalidQuestion if the item is no outer number."""
    shape.item(name)
    if name not in shape.outer_numbers():
        raise InvalidQuestion(f"{name!r} is no number of the outermost list")


class Gauge:
    """The bytes of an outer number: each adds to the value, as often as its weight says."""

    def __init__(self, shape, name):
        self._item = shape.item(name)
        self._at = shape.names.index(name)

    def weight(self, position):
        """The weight of the next byte: 0 if another item waits."""
        at, far = position
        return weight_of(self._item, far) if at == self._at else 0

    def rest(self, position, weight):
        """Two bounds for the byte of this weight, if it still comes; otherwise it adds nothing any more."""
        if self._is_past(position, weight):
            return (0, 0)
        low, high = self._item[4:]
        if weight == 256:
            return (low // 256, high // 256)
        return (low % 256, high % 256) if low // 256 == high // 256 else (0, 255)

    def _is_past(self, position, weight):
        at, far = position
        if at == self._at and far != FRESH:
            return self.weight(position) != weight
        return at > self._at


def weights_of(shapes, name):
    """The weights of the bytes in which two values of an outer number of some shapes can be different."""
    return (1, 256) if any([shape.item(name)[5] > 255 for shape in shapes]) else (1,)


class Comparison:
    """Compares the bytes of one weight in the values of an outer number in two runs.

    Two values are different exactly if their bytes of some weight are. To a number of one byte belongs
    a byte of the greater weight, too, that is always 0.
    """

    def __init__(self, runs, gauge, other_runs, other_gauge, weight):
        self._runs = runs
        self._gauge = gauge
        self._other_runs = other_runs
        self._other_gauge = other_gauge
        self._weight = weight

    def slope(self, one, other, known):
        """How much each unit of the next byte adds to the difference between two runs in these states."""
        if known in (EQUAL, DIFFERENT):
            return 0
        taken = self._gauge.weight(self._runs.position(one)) == self._weight
        taken_beside = self._other_gauge.weight(self._other_runs.position(other)) == self._weight
        return (1 if taken else 0) - (1 if taken_beside else 0)

    def known_behind(self, one, other, known, byte):
        """What is known behind a byte that two runs take in these states."""
        slope = self.slope(one, other, known)
        return known + slope * byte if slope != 0 else known

    def judged(self, one, other, known):
        """What is known when two runs have come to these states."""
        if known in (EQUAL, DIFFERENT):
            return known
        least, greatest = self._gauge.rest(self._runs.position(one), self._weight)
        low, high = self._other_gauge.rest(self._other_runs.position(other), self._weight)
        if known + least > high or known + greatest < low:
            return DIFFERENT
        return EQUAL if least == greatest and low == high else known


def values_in(shape, name, file):
    """The values of an outer number in the readings of a file, in ascending order, each once."""
    machine = Machine(shape)
    gauge = Gauge(shape, name)
    level = {(state, 0): True for state, _ in machine.start()}
    for byte in file:
        behind = {}
        for state, value in level:
            more = value + gauge.weight(machine.position(state)) * byte
            for entry in machine.step(state, byte):
                behind[(entry[0], more)] = True
        level = behind
    return sorted([value for state, value in level if machine.is_done(state)])
