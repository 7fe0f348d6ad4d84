"""The lists of states to which files lead: for each file the states behind it, each once.

The states stand in the order in which the machine comes to them. Lists have numbers, so that nodes of
long lists stay small. The list of a file that no way takes is empty.
"""

NO_STATES = 0


class Lists:
    """The lists of the runs of one machine. It is a plan whose nodes are the lists that are not empty."""

    def __init__(self, runs, tables):
        self._runs = runs
        self._tables = tables
        self._numbers = {(): NO_STATES}
        self._lists = [()]
        self._steps = {}

    def start(self):
        """The list before the first byte."""
        return self._number({state: True for state, _ in self._runs.start()})

    def step(self, number, byte):
        """The list behind a byte."""
        key = (number, byte)
        if key not in self._steps:
            entries = [entry for state in self._lists[number] for entry in self._runs.step(state, byte)]
            self._steps[key] = self._number({state: True for state, _ in entries})
        return self._steps[key]

    def tables(self, number):
        """The numbers of the tables of the states of a list, each once."""
        return list({self._runs.table(state): True for state in self._lists[number]})

    def sets(self, number):
        """The sets (least, greatest, many) of the bytes that lead to the same list; the list is not empty."""
        return self._tables.sets(self.tables(number))

    def how_many(self):
        """How many lists there are so far."""
        return len(self._lists)

    def size(self, number):
        """The number of the states of a list."""
        return len(self._lists[number])

    def can_end(self, number):
        """Tells whether a state of the list is done."""
        return any([self._runs.is_done(state) for state in self._lists[number]])

    def waits(self, number, name):
        """Tells whether the item of this name waits in some state of the list."""
        return any([self._runs.waits(state) == name for state in self._lists[number]])

    def begin(self):
        """The only node before the first byte."""
        return [self.start()]

    def further(self, number, byte):
        """The node behind a byte, or none."""
        behind = self.step(number, byte)
        return [] if behind == NO_STATES else [behind]

    def bytes_of(self, nodes):
        """The least byte of each set of bytes that lead to the same lists."""
        return self._tables.least_bytes([table for number in nodes for table in self.tables(number)])

    def _number(self, found):
        states = tuple(list(found))
        if states not in self._numbers:
            self._numbers[states] = len(self._lists)
            self._lists.append(states)
        return self._numbers[states]
