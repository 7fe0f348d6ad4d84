"""Writing files: of given values, and the first file along a path."""

from byteshape.errors import InvalidValue
from byteshape.machine import LIMIT, Machine, is_byte
from byteshape.order import Order, first_goal_file
from byteshape.rules import is_integer
from byteshape.runs import Runs, Tables


def expect(holds, name):
    """Raises InvalidValue for the item of this name unless something holds."""
    if not holds:
        raise InvalidValue(name)


def entry_value(values, at, name):
    """The value of the entry at this place, which has to be one for the item of this name."""
    expect(at < len(values), name)
    entry = values[at]
    expect(isinstance(entry, tuple) and len(entry) == 2 and entry[0] == name, name)
    return entry[1]


def is_bytes(value, least, most):
    """Tells whether a value is a list of bytes whose length lies within these bounds."""
    return isinstance(value, list) and least <= len(value) <= most and all([is_byte(one) for one in value])


def number_bytes(item, value):
    """The bytes that write the value of a number."""
    size, order, low, high = item[2:]
    expect(is_integer(value, low, high), item[1])
    if size == 1:
        return [value]
    if order == "big":
        return [value // 256, value % 256]
    return [value % 256, value // 256]


class Writer:
    """A file that is written, value by value."""

    def __init__(self):
        self.data = []
        self._total = 0

    def add_list(self, items, values, owner, known):
        """Writes the value list of some items.

        `owner` is the name of the item in whose block they stand, and `known` has the values of the
        numbers that are visible to them. Raises InvalidValue.
        """
        expect(isinstance(values, list), owner)
        numbers = dict(known)
        at = 0
        for item in items:
            if item[0] == "check":
                self._put([self._total % item[2]])
            elif item[0] == "pad":
                self._put([item[3]] * (-len(self.data) % item[2]))
            else:
                value = entry_value(values, at, item[1])
                self._add_value(item, value, numbers)
                if item[0] == "number":
                    numbers[item[1]] = value
                at += 1
        expect(at == len(values), owner)

    def _add_value(self, item, value, numbers):
        kind = item[0]
        if kind == "number":
            self._put(number_bytes(item, value))
        elif kind == "bytes":
            length = numbers.get(item[2], item[2])
            expect(is_bytes(value, length, length), item[1])
            self._put(value)
        elif kind == "text":
            expect(is_bytes(value, 0, item[3]) and item[2] not in value, item[1])
            self._put(value)
            self._put([item[2]])
        else:
            self._add_blocks(item, value, numbers)

    def _add_blocks(self, item, value, numbers):
        name = item[1]
        if item[0] == "repeat":
            count = numbers.get(item[2], item[2])
            expect(isinstance(value, list) and len(value) == count, name)
            for values in value:
                self.add_list(item[3], values, name, numbers)
        elif item[0] == "either":
            expect(isinstance(value, tuple) and len(value) == 2, name)
            number, values = value
            expect(is_integer(number, 0, len(item[2]) - 1), name)
            self.add_list(item[2][number], values, name, numbers)
        else:
            blocks = [block for case, block in item[3] if case == numbers[item[2]]]
            expect(len(blocks) == 1, name)
            self.add_list(blocks[0], value, name, numbers)

    def _put(self, piece):
        self.data.extend(piece)
        self._total += sum(piece)


def write(shape, values):
    """The file of a value list. Raises InvalidValue with the name of the item of the first fault."""
    writer = Writer()
    writer.add_list(shape.parts, values, "", {})
    return writer.data


class PathPlan:
    """The plan of a search along a path: a node is a length, a state and how many choices were taken."""

    def __init__(self, shape, path):
        self._path = tuple(path)
        self._tables = Tables()
        self._runs = Runs(Machine(shape), self._tables)

    def begin(self):
        """The nodes before the first byte."""
        return self._along(self._runs.start(), 0, 0)

    def further(self, node, byte):
        """The nodes behind a byte."""
        length, number, met = node
        return self._along(self._runs.step(number, byte), length + 1, met)

    def bytes_of(self, nodes):
        """The least byte of each set of bytes that lead to the same states."""
        return self._tables.least_bytes([self._runs.table(number) for _, number, _ in nodes])

    def is_goal(self, node):
        """Tells whether a reading with this path ends here."""
        return self._runs.is_done(node[1]) and node[2] == len(self._path)

    def _along(self, entries, length, met):
        return [(length, number, met + len(choices)) for number, choices in entries
                if choices == self._path[met:met + len(choices)]]


def first_file(shape, path, *, limit=LIMIT):
    """The first file that has a reading with this path, or None. Raises TooMany."""
    return first_goal_file([Order(PathPlan(shape, path), limit)])
