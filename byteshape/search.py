"""Searching the states of a shape, and the first files that lead to them."""

from byteshape.errors import TooMany
from byteshape.machine import Machine, joint_classes

LIMIT = 2000


class Search:
    """The result of a search: the states that were found, and the first files to them.

    States with the same first file form a group. `groups` has the number of the group of each state,
    and `steps` has for each group the number of the group one byte before, and this byte.
    """

    def __init__(self, groups, steps):
        self.states = list(groups)
        self._groups = {state: groups[state] for state in groups}
        self._steps = list(steps)

    def file_to(self, state):
        """The first file to a state that was found."""
        found = []
        group = self._groups[state]
        while group > 0:
            group, byte = self._steps[group]
            found.append(byte)
        found.reverse()
        return found


def added(group_of, states, number, limit):
    """Adds those of the states that were not found before to a group, and returns them.

    Raises TooMany if more than `limit` states are found then.
    """
    fresh = []
    for state in states:
        if state not in group_of:
            group_of[state] = number
            fresh.append(state)
    if len(group_of) > limit:
        raise TooMany(limit)
    return fresh


def behind_byte(machine, states, byte):
    """The states behind a byte of some states, in the order in which they come."""
    return [entry[0] for state in states for entry in machine.step(state, byte)]


def searched(machine, limit):
    """The Search of the reached states of a machine. Raises TooMany."""
    group_of = {}
    steps = [(0, 0)]
    groups = [added(group_of, [state for state, _ in machine.start()], 0, limit)]
    at = 0
    while at < len(groups):
        states = groups[at]
        # The other bytes of a set lead to states that its least byte has led to.
        for byte, _, _ in joint_classes([(machine, state) for state in states]):
            fresh = added(group_of, behind_byte(machine, states, byte), len(groups), limit)
            if fresh:
                groups.append(fresh)
                steps.append((at, byte))
        at += 1
    return Search(group_of, steps)


def explore(shape, *, limit=LIMIT):
    """The Search of the reached states of a shape. Raises TooMany."""
    return searched(Machine(shape), limit)


def first_read(shape, *, limit=LIMIT):
    """The first file that a shape reads, or None. Raises TooMany."""
    machine = Machine(shape)
    search = searched(machine, limit)
    for state in search.states:
        if machine.is_done(state):
            return search.file_to(state)
    return None
