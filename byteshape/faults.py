"""Faults: where reading a file fails, and the first files that fail at an item."""

from byteshape.lists import NO_STATES, Lists
from byteshape.machine import LIMIT, Machine, check_file
from byteshape.order import Order, file_of
from byteshape.runs import Runs, Tables
from byteshape.ways import any_done, state_levels


class Fault:
    """The fault of a file.

    `place` is the length of its longest beginning, `awaited` has the names of the items that wait behind
    it, and `left_over` tells whether a reading could end there though bytes follow.
    """

    def __init__(self, place, awaited, left_over):
        self.place = place
        self.awaited = list(awaited)
        self.left_over = left_over


def fault(shape, file):
    """The Fault of a file, or None if it has a reading. Raises InvalidFile."""
    check_file(file)
    machine = Machine(shape)
    levels = state_levels(machine, file)
    place = len(levels) - 1
    can_end = any_done(machine, levels[place])
    if place == len(file) and can_end:
        return None
    waiting = {machine.waits(state): True for state in levels[place]}
    return Fault(place, [name for name in shape.names if name in waiting], can_end)


def lists_in_order(shape, limit):
    """The Lists of a shape, and the Order in which files lead to them. Raises TooMany."""
    tables = Tables()
    lists = Lists(Runs(Machine(shape), tables), tables)
    order = Order(lists, limit)
    order.go_through()
    return (lists, order)


def first_cut(shape, name, *, limit=LIMIT):
    """The first file without a reading that is a beginning behind which the item waits, or None.

    Raises UnknownName, then TooMany.
    """
    shape.item(name)
    lists, order = lists_in_order(shape, limit)
    for number, group in order.group_of.items():
        if lists.waits(number, name) and not lists.can_end(number):
            return file_of(order.steps, group)
    return None


def first_wrong(shape, name, *, limit=LIMIT):
    """The first file that is no beginning, but is one without its last byte, for which the item waits, or None.

    Raises as `first_cut`.
    """
    shape.item(name)
    lists, order = lists_in_order(shape, limit)
    for number, group in order.group_of.items():
        if lists.waits(number, name):
            for byte in lists.bytes_of([number]):
                if lists.step(number, byte) == NO_STATES:
                    return file_of(order.steps, group) + [byte]
    return None
