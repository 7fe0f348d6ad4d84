"""What lies one byte behind states, for all bytes at once."""

MOST_KEPT = 20000


class Spread:
    """The steps of the states of a machine; those of a state are looked for once, as long as they are kept."""

    def __init__(self, machine):
        self._machine = machine
        self._rows = {}

    def row(self, state):
        """The sets of bytes that are taken: tuples (least, greatest, many, the list of the states behind)."""
        if state not in self._rows:
            # A long shape has far more states than those of one length.
            if len(self._rows) >= MOST_KEPT:
                self._rows = {}
            self._rows[state] = self._found(state)
        return self._rows[state]

    def _found(self, state):
        found = []
        for least, greatest, many in self._machine.classes(state):
            states = [entry[0] for entry in self._machine.step(state, least)]
            if states:
                found.append((least, greatest, many, states))
        return found
