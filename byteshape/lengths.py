"""The lengths of the files that a shape reads."""

from byteshape.limits import require_few
from byteshape.machine import LIMIT, Machine
from byteshape.spread import Spread


def lengths(shape, *, limit=LIMIT):
    """The list of the lengths in ascending order. Raises TooMany."""
    machine = Machine(shape)
    spread = Spread(machine)
    level = {state: True for state, _ in machine.start()}
    found = []
    length = 0
    while level:
        require_few(len(level), limit)
        if any([machine.is_done(state) for state in level]):
            found.append(length)
        level = {behind: True for state in level for row in spread.row(state) for behind in row[3]}
        length += 1
    return found


def shortest(shape, *, limit=LIMIT):
    """The least length, or None. Raises TooMany."""
    return min(lengths(shape, limit=limit), default=None)


def longest(shape, *, limit=LIMIT):
    """The greatest length, or None. Raises TooMany."""
    return max(lengths(shape, limit=limit), default=None)
