"""Runs of machines in which states have numbers, so that nodes of many states stay small.

Each step is asked of the machine once.
"""

from byteshape.machine import sets_of


def every_byte():
    """The list of all bytes."""
    return list(range(256))


class Tables:
    """The tables of labels of states: tuples of one number for each byte. Each has a number itself."""

    def __init__(self):
        self._rows = []
        self._numbers = {}
        self._sets = {}

    def number(self, labels):
        """The number of a table."""
        if labels not in self._numbers:
            self._numbers[labels] = len(self._rows)
            self._rows.append(labels)
        return self._numbers[labels]

    def sets(self, numbers):
        """The sets (least, greatest, many) of the bytes that none of some tables tells apart."""
        key = tuple(sorted(set(numbers)))
        if key not in self._sets:
            rows = [self._rows[number] for number in key]
            self._sets[key] = sets_of(list(zip(*rows)))
        return self._sets[key]

    def least_bytes(self, numbers):
        """The least byte of each set, in ascending order."""
        return [least for least, _, _ in self.sets(numbers)]


class Runs:
    """The states to which runs of a machine come. Machines that run beside each other share their tables."""

    def __init__(self, machine, tables):
        self._machine = machine
        self._tables = tables
        self._numbers = {}
        self._states = []
        self._labels = []
        self._table = []
        self._steps = {}

    def start(self):
        """The tuples (number of a state, choices) before the first byte."""
        return [(self._number(state), choices) for state, choices in self._machine.start()]

    def step(self, number, byte):
        """The tuples (number of a state, choices) behind a byte."""
        key = (number, self._labels[number][byte])
        if key not in self._steps:
            entries = self._machine.step(self._states[number], byte)
            self._steps[key] = [(self._number(state), choices) for state, choices, _ in entries]
        return self._steps[key]

    def table(self, number):
        """The number of the table of a state."""
        return self._table[number]

    def is_done(self, number):
        """Tells whether the file can end in this state."""
        return self._machine.is_done(self._states[number])

    def waits(self, number):
        """The name of the item that waits, or None."""
        return self._machine.waits(self._states[number])

    def position(self, number):
        """Where the item that waits stands among the names of the shape, and how far it is."""
        return self._machine.position(self._states[number])

    def _number(self, state):
        if state not in self._numbers:
            labels = self._machine.labels(state)
            self._numbers[state] = len(self._states)
            self._states.append(state)
            self._labels.append(labels)
            self._table.append(self._tables.number(labels))
        return self._numbers[state]
