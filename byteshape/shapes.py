"""Shapes: descriptions of the format of binary files."""

from byteshape.errors import UnknownName
from byteshape.items import edited, listed
from byteshape.rules import list_lengths, require

LETTERS = "abcdefghijklmnopqrstuvwxyz"
DIGITS = "0123456789"
LONGEST_NAME = 12
DEEPEST = 3
LONGEST_LIST = 12
MOST_ITEMS = 30
PARTS = {"number": 6, "bytes": 3, "text": 4, "repeat": 4, "either": 3, "switch": 4, "check": 3, "pad": 4}
WITH_BLOCKS = ("repeat", "either", "switch")


def is_name(text):
    """Tells whether a string is a name: 1 to 12 letters and digits, the first one a letter."""
    if not isinstance(text, str) or not 1 <= len(text) <= LONGEST_NAME:
        return False
    return text[0] in LETTERS and all([one in LETTERS or one in DIGITS for one in text])


def is_row(rows, least, most):
    """Tells whether something is a list or a tuple of an allowed length."""
    return isinstance(rows, (list, tuple)) and least <= len(rows) <= most


def copied_list(items, depth):
    """The items of a list at this depth as a tuple of tuples."""
    require(is_row(items, 0, LONGEST_LIST), f"a list has at most {LONGEST_LIST} items")
    return tuple([copied_item(item, depth) for item in items])


def copied_item(item, depth):
    """A copy of an item at this depth, all of whose blocks are tuples."""
    require(isinstance(item, tuple) and len(item) > 0, "an item is a tuple")
    kind = item[0]
    require(isinstance(kind, str) and kind in PARTS, "no kind of item")
    require(len(item) == PARTS[kind], f"the kind {kind} has another number of parts")
    require(is_name(item[1]), "no name")
    # Blocks are looked at only within the depth, so that no nesting is followed without end.
    deepest = DEEPEST - 1 if kind in WITH_BLOCKS else DEEPEST
    require(depth <= deepest, f"an item of the kind {kind} stands too deep")
    if kind == "repeat":
        return item[:3] + (copied_list(item[3], depth + 1),)
    if kind == "either":
        return item[:2] + (copied_choices(item[2], depth + 1),)
    if kind == "switch":
        return item[:3] + (copied_cases(item[3], depth + 1),)
    return tuple(item)


def copied_choices(choices, depth):
    """The choices of an either as a tuple; their items have this depth."""
    require(is_row(choices, 2, 4), "an either has 2 to 4 choices")
    return tuple([copied_list(choice, depth) for choice in choices])


def copied_cases(cases, depth):
    """The cases of a switch as a tuple; their items have this depth."""
    require(is_row(cases, 1, 8), "a switch has 1 to 8 cases")
    found = []
    for case in cases:
        require(isinstance(case, tuple) and len(case) == 2, "a case is a tuple of a value and items")
        found.append((case[0], copied_list(case[1], depth)))
    return tuple(found)


class Shape:
    """A shape. It keeps all rules, and it does not change."""

    def __init__(self, items):
        self.parts = copied_list(items, 0)
        require(len(self.parts) >= 1, "a shape has an item in its outermost list")
        self._rows = tuple(listed(self.parts, 0))
        self.names = tuple([item[1] for _, item in self._rows])
        require(len(self._rows) <= MOST_ITEMS, f"a shape has at most {MOST_ITEMS} items")
        require(len(set(self.names)) == len(self.names), "two items of one name")
        checks = [item for _, item in self._rows if item[0] == "check"]
        require(len(checks) <= 1, "a shape has at most one check")
        self._least, self._greatest = list_lengths(self.parts, {})
        self._row_of = {row[1][1]: row for row in self._rows}

    @property
    def least_length(self):
        """The least length of the outermost list."""
        return self._least

    @property
    def greatest_length(self):
        """The greatest length of the outermost list."""
        return self._greatest

    def walk(self):
        """The tuples (depth, item) of all items: each one directly before those of its blocks."""
        for row in self._rows:
            yield row

    def item(self, name):
        """The item of this name. Raises UnknownName."""
        return self._row(name)[1]

    def depth(self, name):
        """The number of blocks in which the item of this name stands. Raises UnknownName."""
        return self._row(name)[0]

    def outer_numbers(self):
        """The names of the numbers of the outermost list, in their order."""
        return [item[1] for item in self.parts if item[0] == "number"]

    def with_item(self, name, item):
        """The shape with this item in the place of the one of this name.

        Raises UnknownName, then InvalidShape.
        """
        self._row(name)
        return Shape(edited(self.parts, name, (item,)))

    def without_item(self, name):
        """The shape without the item of this name. Raises UnknownName, then InvalidShape."""
        self._row(name)
        return Shape(edited(self.parts, name, ()))

    def _row(self, name):
        if name not in self._row_of:
            raise UnknownName(name)
        return self._row_of[name]
