"""Searching the states of a shape, and the first files that lead to them."""

from byteshape.machine import Machine, joint_classes
from byteshape.order import Order, file_of

LIMIT = 2000


class Search:
    """The result of a search: the states that were found, and the first files to them.

    `groups` has the number of the group of each state; states of one group have the same first file.
    """

    def __init__(self, groups, steps):
        self.states = list(groups)
        self._groups = {state: groups[state] for state in groups}
        self._steps = list(steps)

    def file_to(self, state):
        """The first file to a state that was found."""
        return file_of(self._steps, self._groups[state])


class StatePlan:
    """The plan of a search whose nodes are the states of a machine."""

    def __init__(self, machine):
        self._machine = machine

    def begin(self):
        """The states before the first byte."""
        return [state for state, _ in self._machine.start()]

    def further(self, state, byte):
        """The states behind a byte."""
        return [entry[0] for entry in self._machine.step(state, byte)]

    def bytes_of(self, states):
        """The least byte of each set of bytes that lead to the same states."""
        return [least for least, _, _ in joint_classes([(self._machine, state) for state in states])]


def searched(machine, limit):
    """The Search of the reached states of a machine. Raises TooMany."""
    order = Order(StatePlan(machine), limit)
    order.go_through()
    return Search(order.group_of, order.steps)


def explore(shape, *, limit=LIMIT):
    """The Search of the reached states of a shape. Raises TooMany."""
    return searched(Machine(shape), limit)


def first_read(shape, *, limit=LIMIT):
    """The first file that a shape reads, or None. Raises TooMany."""
    machine = Machine(shape)
    search = searched(machine, limit)
    for state in search.states:
        if machine.is_done(state):
            return search.file_to(state)
    return None
