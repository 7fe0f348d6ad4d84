"""Streams: files that stand one behind another in one list of bytes."""

from byteshape.limits import require_few
from byteshape.lists import NO_STATES, Lists
from byteshape.machine import LIMIT, Machine, check_file
from byteshape.runs import Runs, Tables

MOST_KEPT = 20000


class Cutter:
    """Finds the ends of the files of one shape in a stream.

    The lists of states that it came to are kept from one start to the next one, as long as they are few.
    """

    def __init__(self, shape, stream, limit):
        self._shape = shape
        self._stream = stream
        self._limit = limit
        self._lists = self._new_lists()

    def ends(self, start):
        """The ends from a place, in ascending order. Raises TooMany."""
        if self._lists.how_many() > MOST_KEPT:
            self._lists = self._new_lists()
        number = self._lists.start()
        require_few(self._lists.size(number), self._limit)
        found = [start] if self._lists.can_end(number) else []
        for place in range(start, len(self._stream)):
            number = self._lists.step(number, self._stream[place])
            if number == NO_STATES:
                break
            require_few(self._lists.size(number), self._limit)
            if self._lists.can_end(number):
                found.append(place + 1)
        return found

    def _new_lists(self):
        tables = Tables()
        return Lists(Runs(Machine(self._shape), tables), tables)


def ends(shape, stream, *, start=0, limit=LIMIT):
    """The list of the ends of a shape from a place of a stream, in ascending order.

    Raises InvalidFile, then TooMany.
    """
    check_file(stream)
    return Cutter(shape, stream, limit).ends(start)


def counted(level, row):
    """For each end in a row, the number of ways to it; `level` has those to the places of the row."""
    found = {}
    for place, many in level.items():
        for end in row[place]:
            found[end] = found.get(end, 0) + many
    return found


def count_cuts(shapes, stream, *, limit=LIMIT):
    """The number of the cuts of a stream for a list of shapes. Raises InvalidFile, then TooMany."""
    check_file(stream)
    level = {0: 1}
    for shape in shapes:
        cutter = Cutter(shape, stream, limit)
        level = counted(level, {place: cutter.ends(place) for place in level})
    return level.get(len(stream), 0)


def useful_rows(shapes, stream, limit):
    """For each shape the dict of the ends from each place that is come to; only those that lead to a cut."""
    rows = []
    places = [0]
    for shape in shapes:
        cutter = Cutter(shape, stream, limit)
        row = {place: cutter.ends(place) for place in places}
        rows.append(row)
        places = sorted(set([end for place in row for end in row[place]]))
    goals = {len(stream): True}
    found = []
    for row in reversed(rows):
        useful = {place: [end for end in row[place] if end in goals] for place in row}
        goals = {place: True for place in useful if useful[place]}
        found.append(useful)
    found.reverse()
    return found


def cuts(shapes, stream, *, limit=LIMIT):
    """The list of all cuts of a stream for a list of shapes, in ascending order. Raises InvalidFile, then TooMany."""
    check_file(stream)
    rows = useful_rows(shapes, stream, limit)
    ways = {0: 1}
    for row in rows:
        ways = counted(ways, row)
    require_few(sum(ways.values()), limit)
    level = [((), 0)]
    for row in rows:
        level = [(cut + (end,), end) for cut, place in level for end in row[place]]
    return [cut for cut, place in level if place == len(stream)]


def chunks(shape, stream, *, limit=LIMIT):
    """The list of the ends of the chunks of a stream, or None if it cannot be divided so.

    Raises InvalidFile, then TooMany.
    """
    check_file(stream)
    cutter = Cutter(shape, stream, limit)
    # For each place from which the rest can be divided, the number of the files of the rest and the end of the first.
    best = {len(stream): (0, len(stream))}
    for start in reversed(range(len(stream))):
        choices = [(best[end][0] + 1, end) for end in cutter.ends(start) if end > start and end in best]
        if choices:
            best[start] = min(choices)
    if 0 not in best:
        return None
    found = []
    place = 0
    while place < len(stream):
        place = best[place][1]
        found.append(place)
    return found
