"""All files of small shapes, found by trying: what the tests compare searches and counts with.

The bounds of tiny shapes are so small that bytes of 5 and above differ only by whether they are odd. So
each file of the bytes 0 to 6 stands for many files, and no first file has a greater byte.
"""

from byteshape.errors import InvalidShape
from byteshape.shapes import Shape
from naive import Ways, described, used
from shapes_at_random import Maker

LETTERS = range(7)
# How many bytes each letter stands for.
MANY = [1, 1, 1, 1, 1, 126, 125]
LONGEST = 6
MOST_FILES = 600
SOME = []


class TinyMaker(Maker):
    """Makes items whose files are few."""

    def amount(self, visible, most):
        names = [name for name, high in visible.items() if high <= most]
        if names and self.random.random() < 0.7:
            return self.random.choice(names)
        return self.random.randint(0, 2)

    def number(self, depth, visible):
        low = self.random.randint(0, 2)
        high = min(low + self.random.randint(0, 2), 4)
        if self.random.random() < 0.75:
            return ("number", self.name(), 1, "big", low, high)
        return ("number", self.name(), 2, self.random.choice(["big", "little"]), low, self.random.choice([high, high, 256 + high]))

    def text(self, depth, visible):
        return ("text", self.name(), self.random.randint(0, 3), self.random.randint(0, 2))

    def check(self, depth, visible):
        self.checked = True
        return ("check", self.name(), self.random.randint(1, 2))

    def pad(self, depth, visible):
        return ("pad", self.name(), self.random.choice([1, 2, 4]), self.random.randint(0, 2))

    def switch(self, depth, visible):
        name = self.name()
        values = self.random.sample([0, 1, 2, 3, 257], self.random.randint(1, 3))
        tag = self.random.choice(list(visible))
        return ("switch", name, tag, [(value, self.block(depth + 1, visible, 0, 2)) for value in values])


class ShiftMaker(TinyMaker):
    """Makes shapes in which items can stand at several places of one file, so that files are read in several ways."""

    def shape(self, least, most):
        self.items = [self.shift(), self.number(0, {})] + [self.item(2, {}) for _ in range(self.random.randint(0, 1))]
        self.items += [self.shift() for _ in range(self.random.randint(0, 1))]
        self.random.shuffle(self.items)
        try:
            return Shape(self.items + [self.shift()])
        except InvalidShape:
            return None

    def shift(self):
        """An either whose choices differ in their lengths."""
        name = self.name()
        return ("either", name, [self.piece(many) for many in self.random.sample([0, 1, 2], self.random.randint(2, 3))])

    def piece(self, many):
        """Items of this length."""
        if self.random.random() < 0.4:
            return [("bytes", self.name(), many)] if many else []
        return [("number", self.name(), 1, "big", 0, self.random.randint(0, 4)) for _ in range(many)]


def is_tiny(made, longest):
    """Whether the files of a shape can be tried."""
    if not 1 <= made.greatest_length <= longest:
        return False
    items = [item for depth, item in made.walk()]
    wide = [item[1] for item in items if item[0] == "number" and item[5] > 4]
    # The first byte of a wide number that is used makes more states than there are letters.
    return not any(used(item) in wide for item in items) and len(tried(made, MOST_FILES)) < MOST_FILES


def tiny_shapes(first, many, kinds=(), longest=LONGEST, maker=TinyMaker):
    """Some tiny shapes with items of all of these kinds: the same in each run, told by the number of the first one."""
    found = []
    seed = first * 100003
    while len(found) < many:
        seed += 1
        made = maker(seed).shape(2, 5)
        if made is not None and kinds_of(made) >= set(kinds) and is_tiny(made, longest):
            found.append(made)
    return found


def kinds_of(made):
    """The kinds of the items of a shape."""
    return {item[0] for depth, item in made.walk()}


class Tried:
    """A file that was tried: its readings, and the states that it leads to in the order of their ways."""

    def __init__(self, items, file):
        ways = Ways(items, file)
        self.file = list(file)
        self.readings = sorted(ways.done, key=lambda one: one[0])
        found = [(path, "done") for path, content in ways.done]
        found += [(one[0], described(items, one)) for one in ways.waiting]
        self.ways = sorted(found, key=lambda one: one[0])
        self.states = tuple(dict.fromkeys(state for path, state in self.ways))
        self.waiting = {one[1][1] for one in ways.waiting}
        self.many = 1
        for byte in file:
            self.many *= MANY[byte]

    def values(self, name):
        """The values of an outer number in the readings, in ascending order."""
        return sorted({dict(content)[name] for path, content in self.readings})


def some_tried():
    """Tiny shapes of all sorts with the files that were tried: a list of tuples, the same in each run."""
    if not SOME:
        found = tiny_shapes(1, 8) + tiny_shapes(2, 8, ("either",)) + tiny_shapes(3, 6, ("switch", "bytes"))
        found += tiny_shapes(4, 6, ("repeat", "check")) + tiny_shapes(5, 20, maker=ShiftMaker)
        SOME.extend((made, tried(made)) for made in found)
    return list(SOME)


def by_length(found):
    """For each length the beginnings of this length, in their order; for one length more there are none."""
    longest = max(len(file) for file in found)
    rows = [[] for _ in range(longest + 2)]
    for file, one in found.items():
        rows[len(file)].append(one)
    return rows


def tried(made, most=None):
    """The files of a tiny shape that are beginnings, in their order: a dict of tuples. Ends with too many of them."""
    found = {}
    level = [()]
    while level and (most is None or len(found) < most):
        tries = [(file, Tried(made.parts, file)) for file in level]
        level = []
        for file, one in tries:
            if one.states:
                found[file] = one
                level.extend(file + (byte,) for byte in LETTERS)
    return found


def nothing_behind(found):
    """The files that are no beginnings, but are beginnings without their last byte, in their order."""
    return [list(file + (byte,)) for file in found for byte in LETTERS if file + (byte,) not in found]
