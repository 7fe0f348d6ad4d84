"""Feeds: reading a file that comes piece by piece."""

from byteshape.errors import InvalidFile
from byteshape.machine import LIMIT, LONGEST_FILE, Machine, is_byte
from byteshape.reading import readings
from byteshape.ways import any_done, first_level, follow


class Feed:
    """A feed: the bytes that came so far, and all ways that take them."""

    def __init__(self, shape, *, limit=LIMIT):
        self.shape = shape
        self.limit = limit
        self._machine = Machine(shape)
        self._data = []
        self._level = first_level(self._machine, limit)
        self._received = 0
        self._ways = sum(self._level.values())

    @property
    def received(self):
        """The number of bytes that came."""
        return self._received

    @property
    def ways(self):
        """The number of the ways that take the bytes that came."""
        return self._ways

    def push(self, data):
        """Takes the next bytes, all of them or none.

        Raises InvalidFile, then TooMany and NotRead; then the feed is as it was.
        """
        piece = list(data)
        if self._received + len(piece) > LONGEST_FILE or not all([is_byte(one) for one in piece]):
            raise InvalidFile("no bytes, or more than 4096 of them together")
        levels = follow(self._machine, self._level, piece, self._received, self.limit)
        if levels:
            self._level = levels[-1]
        self._data.extend(piece)
        self._received = len(self._data)
        self._ways = sum(self._level.values())

    def can_end(self):
        """Tells whether the bytes that came are a file that is read."""
        return any_done(self._machine, self._level)

    def awaits(self):
        """The names of all items that wait for the next byte in some way, in ascending order."""
        names = {self._machine.waits(state): True for state in self._level if not self._machine.is_done(state)}
        return sorted(names)

    def finish(self):
        """The readings of the bytes that came, as a whole file. Raises NotRead."""
        return readings(self.shape, self._data, limit=self.limit)
