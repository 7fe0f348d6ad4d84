"""Nearest files: the file that a shape reads with as few changes as possible."""

from byteshape.limits import require_few
from byteshape.machine import LIMIT, Machine, check_file
from byteshape.spread import Spread


class Nearest:
    """The nearest file to a file, and the number of its changes."""

    def __init__(self, changes, file):
        self.changes = changes
        self.file = list(file)


class Drafts:
    """The best beginnings of a file: for each state those bytes that lead to it and come first.

    Bytes with fewer changes come ahead of others, and of those with as many changes the first ones in
    the order of files. `rows` has of each state the tuple (changes, number): the numbers stand for the
    bytes, in the order of files.
    """

    def __init__(self, machine):
        self._machine = machine
        self._spread = Spread(machine)
        # What stands under a number is (what stands ahead, byte), so that bytes that no draft needs are given up.
        self._chains = [None]
        self.rows = {state: (0, 0) for state, _ in machine.start()}

    def go_on(self, byte):
        """Goes on by one byte of all bytes there are; another one than this byte is a change."""
        best = {}
        for state, (changes, number) in self.rows.items():
            for entry in self._machine.step(state, byte):
                self._offer(best, entry[0], (changes, number, byte))
            # The set in which the byte itself stands leads nowhere where it does not lead with fewer changes.
            for least, _, _, states in self._spread.row(state):
                for behind in states:
                    self._offer(best, behind, (changes + 1, number, least))
        pairs = sorted(set([(number, last) for _, number, last in best.values()]))
        numbers = {pair: at for at, pair in enumerate(pairs)}
        self._chains = [(self._chains[number], last) for number, last in pairs]
        self.rows = {state: (changes, numbers[(number, last)]) for state, (changes, number, last) in best.items()}

    def file_for(self, number):
        """The bytes for which a number stands."""
        found = []
        chain = self._chains[number]
        while chain is not None:
            chain, byte = chain
            found.append(byte)
        found.reverse()
        return found

    def _offer(self, best, state, draft):
        if state not in best or draft < best[state]:
            best[state] = draft


def nearest(shape, file, *, limit=LIMIT):
    """The Nearest with the nearest file, or None if the shape reads no file of this length.

    Raises InvalidFile, then TooMany.
    """
    check_file(file)
    machine = Machine(shape)
    drafts = Drafts(machine)
    require_few(len(drafts.rows), limit)
    for byte in file:
        drafts.go_on(byte)
        require_few(len(drafts.rows), limit)
    for state, (changes, number) in drafts.rows.items():
        if machine.is_done(state):
            return Nearest(changes, drafts.file_for(number))
    return None
