"""Damaged files: what files with unknown bytes still say for sure."""

from byteshape.errors import InvalidFile
from byteshape.limits import require_few
from byteshape.machine import LIMIT, LONGEST_FILE, Machine, is_byte
from byteshape.outer import Gauge
from byteshape.spread import Spread


class Certain:
    """What a damaged file says: the number of its readings, and the bounds of the outer numbers in them."""

    def __init__(self, count, bounds):
        self.count = count
        self.bounds = list(bounds)


def check_damaged(damaged):
    """Raises InvalidFile if the list is no damaged file."""
    if not isinstance(damaged, list) or len(damaged) > LONGEST_FILE:
        raise InvalidFile("no list, or a list that is too long")
    if not all([one is None or is_byte(one) for one in damaged]):
        raise InvalidFile("an element is neither a byte nor None")


class Tally:
    """For each state behind some bytes, the number of its ways and the bounds of the outer numbers.

    The bounds are those of the values as far as their bytes came.
    """

    def __init__(self):
        self.rows = {}

    def include(self, state, many, bounds):
        """Adds ways that have come to a state."""
        if state in self.rows:
            before, others = self.rows[state]
            many += before
            bounds = [(min(low, least), max(high, greatest)) for (low, high), (least, greatest) in zip(bounds, others)]
        self.rows[state] = (many, bounds)


class Survey:
    """All ways that take the bytes of completions, place by place."""

    def __init__(self, shape):
        self._machine = Machine(shape)
        self._spread = Spread(self._machine)
        self._gauges = [Gauge(shape, name) for name in shape.outer_numbers()]

    def first_tally(self):
        """The Tally before the first byte."""
        tally = Tally()
        for state, _ in self._machine.start():
            tally.include(state, 1, [(0, 0) for _ in self._gauges])
        return tally

    def tally_behind(self, tally, byte):
        """The Tally behind a byte, or behind any byte if it is None."""
        found = Tally()
        rows = list(tally.rows.items())
        for state, (before, bounds) in rows:
            position = self._machine.position(state)
            weights = [gauge.weight(position) for gauge in self._gauges]
            for least, greatest, many, states in self._sets_taken(state, byte):
                grown = [(low + weight * least, high + weight * greatest)
                         for (low, high), weight in zip(bounds, weights)]
                for one in states:
                    found.include(one, before * many, grown)
        return found

    def done(self, tally):
        """The number of ways that are done and the bounds in them; (0, []) if there are none."""
        for state, row in tally.rows.items():
            if self._machine.is_done(state):
                return row
        return (0, [])

    def _sets_taken(self, state, byte):
        """The sets of bytes that are taken, as Spread tells them."""
        if byte is None:
            return self._spread.row(state)
        return [(byte, byte, 1, [entry[0] for entry in self._machine.step(state, byte)])]


def certain(shape, damaged, *, limit=LIMIT):
    """The Certain of a damaged file. Raises InvalidFile, then TooMany."""
    check_damaged(damaged)
    survey = Survey(shape)
    tally = survey.first_tally()
    require_few(len(tally.rows), limit)
    for byte in damaged:
        tally = survey.tally_behind(tally, byte)
        require_few(len(tally.rows), limit)
    many, bounds = survey.done(tally)
    return Certain(many, [(name, low, high) for name, (low, high) in zip(shape.outer_numbers(), bounds)])


def sure_numbers(shape, damaged, *, limit=LIMIT):
    """The tuples (name, value) of the outer numbers that are sure, in the order of the items. Raises as `certain`."""
    found = certain(shape, damaged, limit=limit)
    return [(name, least) for name, least, greatest in found.bounds if least == greatest]
