"""Comparing two shapes: which files both of them read, and with the same values."""

from byteshape.evidence import Beside, Finder
from byteshape.machine import LIMIT, Machine
from byteshape.order import Order, first_goal_file
from byteshape.outer import DIFFERENT, Comparison, Gauge, require_outer, values_in, weights_of
from byteshape.runs import Runs, Tables, every_byte


class Changed:
    """A file that two shapes read with different values of the number of this name."""

    def __init__(self, file, name, before, after):
        self.file = list(file)
        self.name = name
        self.before = before
        self.after = after


class KeepPlan:
    """The plan of a search for a file that two shapes read with different values of an outer number.

    A node is a state of each of them, and what a Comparison knows.
    """

    def __init__(self, one, other, name, weight):
        self._tables = Tables()
        self._runs = Runs(Machine(one), self._tables)
        self._other_runs = Runs(Machine(other), self._tables)
        gauges = (Gauge(one, name), Gauge(other, name))
        self._comparison = Comparison(self._runs, gauges[0], self._other_runs, gauges[1], weight)

    def begin(self):
        """The nodes before the first byte."""
        return self._nodes(self._runs.start(), self._other_runs.start(), 0)

    def further(self, node, byte):
        """The nodes behind a byte."""
        one, other, known = node
        known = self._comparison.known_behind(one, other, known, byte)
        return self._nodes(self._runs.step(one, byte), self._other_runs.step(other, byte), known)

    def bytes_of(self, nodes):
        """The bytes that lead to different nodes."""
        found = {}
        for one, other, known in nodes:
            if self._comparison.slope(one, other, known) != 0:
                return every_byte()
            found[self._runs.table(one)] = True
            found[self._other_runs.table(other)] = True
        return self._tables.least_bytes(list(found))

    def is_goal(self, node):
        """Tells whether both runs end here with different values."""
        return node[2] == DIFFERENT and self._runs.is_done(node[0]) and self._other_runs.is_done(node[1])

    def _nodes(self, entries, other_entries, known):
        pairs = [(one, other) for one, _ in entries for other, _ in other_entries]
        return [(one, other, self._comparison.judged(one, other, known)) for one, other in pairs]


def cover_order(one, other, limit):
    """The Order of the runs of `one` beside the lists of `other`. Raises TooMany."""
    return Order(Finder(Beside(one, other)), limit)


def covers(one, other, *, limit=LIMIT):
    """The first file that `one` reads and `other` does not read, or None. Raises TooMany."""
    return first_goal_file([cover_order(one, other, limit)])


def same_files(one, other, *, limit=LIMIT):
    """The first file that exactly one of two shapes reads, or None. Raises TooMany."""
    return first_goal_file([cover_order(one, other, limit), cover_order(other, one, limit)])


def keeps(one, other, names, *, limit=LIMIT):
    """The first file that both shapes read with different values of some of the numbers, a Changed, or None.

    Raises UnknownName and InvalidQuestion, then TooMany.
    """
    for name in names:
        require_outer(one, name)
        require_outer(other, name)
    plans = [KeepPlan(one, other, name, weight) for name in names for weight in weights_of([one, other], name)]
    file = first_goal_file([Order(plan, limit) for plan in plans])
    if file is None:
        return None
    for name in names:
        found = changed_values(values_in(one, name, file), values_in(other, name, file))
        if found is not None:
            return Changed(file, name, found[0], found[1])
    return None


def changed_values(values, other_values):
    """The least value for which there is a different other one, and the least of these; or None."""
    for value in values:
        different = [one for one in other_values if one != value]
        if different:
            return (value, different[0])
    return None
