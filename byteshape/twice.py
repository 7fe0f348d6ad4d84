"""Files that a shape reads in two ways, or with two values of a number."""

from byteshape.evidence import Finder, Pairs
from byteshape.machine import LIMIT, Machine
from byteshape.order import Order, first_goal_file
from byteshape.outer import DIFFERENT, EQUAL, Comparison, Gauge, require_outer, values_in, weights_of
from byteshape.runs import Runs, Tables, every_byte
from byteshape.ways import first_paths, state_levels


class TwoWays:
    """A file that is read in two ways, and the paths of its first two readings."""

    def __init__(self, file, first, second):
        self.file = list(file)
        self.first = tuple(first)
        self.second = tuple(second)


class TwoValues:
    """A file that is read with two values of a number, and the two least of these values."""

    def __init__(self, file, first, second):
        self.file = list(file)
        self.first = first
        self.second = second


def ordered(one, other, known):
    """The node of two runs that have parted; a difference is that of the first one to the second one."""
    if one <= other:
        return (one, other, known)
    return (other, one, known if known == DIFFERENT else -known)


class ValuesPlan:
    """The plan of a search for two runs of one machine over the same file that a comparison tells apart.

    A node is (state,) as long as both runs have taken the same choices. Behind that it is (state, state,
    known), the smaller number first; known is what the comparison knows.
    """

    def __init__(self, runs, tables, comparison):
        self._runs = runs
        self._tables = tables
        self._comparison = comparison

    def begin(self):
        """The nodes before the first byte."""
        return self._from_one(self._runs.start())

    def further(self, node, byte):
        """The nodes behind a byte."""
        if len(node) == 1:
            return self._from_one(self._runs.step(node[0], byte))
        one, other, known = node
        known = self._comparison.known_behind(one, other, known, byte)
        return self._parted([(first, second) for first, _ in self._runs.step(one, byte)
                             for second, _ in self._runs.step(other, byte)], known)

    def bytes_of(self, nodes):
        """The bytes that lead to different nodes."""
        for node in nodes:
            if len(node) == 3 and self._comparison.slope(node[0], node[1], node[2]) != 0:
                return every_byte()
        return self._tables.least_bytes([self._runs.table(number) for node in nodes for number in node[:2]])

    def is_goal(self, node):
        """Tells whether both runs end here, and are what is searched."""
        return len(node) == 3 and node[2] == DIFFERENT and self._runs.is_done(node[0]) and self._runs.is_done(node[1])

    def _from_one(self, entries):
        """The nodes of each entry with itself, and of each two of them."""
        states = [number for number, _ in entries]
        found = [(number,) for number in states]
        pairs = [(one, other) for at, one in enumerate(states) for other in states[at + 1:]]
        return found + self._parted(pairs, 0)

    def _parted(self, pairs, known):
        """The nodes of pairs of states of which this is known. What is equal is left out."""
        judged = [(one, other, self._comparison.judged(one, other, known)) for one, other in pairs]
        return [ordered(one, other, now) for one, other, now in judged if now != EQUAL]


def two_ways(shape, *, limit=LIMIT):
    """The first file with two readings, a TwoWays, or None. Raises TooMany."""
    file = first_goal_file([Order(Finder(Pairs(shape)), limit)])
    if file is None:
        return None
    machine = Machine(shape)
    first, second = first_paths(machine, state_levels(machine, file), file, 2)
    return TwoWays(file, first, second)


def is_plain(shape, *, limit=LIMIT):
    """Tells whether no file has two readings. Raises TooMany."""
    return two_ways(shape, limit=limit) is None


def values_plan(shape, name, weight):
    """The plan of a search for two runs with different bytes of this weight in the value of an outer number."""
    tables = Tables()
    runs = Runs(Machine(shape), tables)
    gauge = Gauge(shape, name)
    return ValuesPlan(runs, tables, Comparison(runs, gauge, runs, gauge, weight))


def two_values(shape, name, *, limit=LIMIT):
    """The first file with two values of an outer number, a TwoValues, or None.

    Raises UnknownName and InvalidQuestion, then TooMany.
    """
    require_outer(shape, name)
    plans = [values_plan(shape, name, weight) for weight in weights_of([shape], name)]
    file = first_goal_file([Order(plan, limit) for plan in plans])
    if file is None:
        return None
    values = values_in(shape, name, file)
    return TwoValues(file, values[0], values[1])
