"""The written form of shapes: writing it, and reading it back."""

from byteshape.errors import InvalidNotation
from byteshape.items import blocks_of
from byteshape.shapes import DIGITS, Shape, is_name

LONGEST_INTEGER = 9
MOST_OPEN = 3
# What stands behind the first word of a line, word by word.
FORMS = {
    "number": ("name", "integer", "order", "integer", "integer"),
    "bytes": ("name", "amount"),
    "text": ("name", "integer", "integer"),
    "repeat": ("name", "amount"),
    "either": ("name",),
    "switch": ("name", "name"),
    "check": ("name", "integer"),
    "pad": ("name", "integer", "integer"),
    "choice": (),
    "case": ("integer",),
    "end": (),
}
OPENERS = ("repeat", "either", "switch")
# Which line begins a further block in which open item.
BEGINNERS = {"choice": "either", "case": "switch"}


def format_shape(shape):
    """The written form of a shape."""
    return "\n".join(written(shape.parts))


def written(items):
    """The lines of a list of items."""
    lines = []
    for item in items:
        if item[0] not in OPENERS:
            lines.append(" ".join([str(part) for part in item]))
            continue
        lines.append(" ".join([str(part) for part in item[:-1]]))
        for first, block in zip(first_lines(item), blocks_of(item)):
            lines.extend(first)
            lines.extend(written(block))
        lines.append("end")
    return lines


def first_lines(item):
    """For each block of an item, the list of the lines that begin it: one, or none."""
    if item[0] == "repeat":
        return [[]]
    if item[0] == "either":
        return [["choice"] for _ in item[2]]
    return [[f"case {value}"] for value, _ in item[3]]


def is_integer_word(word):
    """Tells whether a word is a written integer."""
    if not 1 <= len(word) <= LONGEST_INTEGER or not all([one in DIGITS for one in word]):
        return False
    return word == "0" or word[0] != "0"


def fits(word, form):
    """Tells whether a word can stand where this form of word is asked for."""
    if form == "integer":
        return is_integer_word(word)
    if form == "name":
        return is_name(word)
    if form == "amount":
        return is_integer_word(word) or is_name(word)
    return word in ("big", "little")


def parts_of(words):
    """The parts that the words of a line write, or None if no line consists of such words."""
    if words[0] not in FORMS:
        return None
    forms = FORMS[words[0]]
    if len(words) != len(forms) + 1:
        return None
    for word, form in zip(words[1:], forms):
        if not fits(word, form):
            return None
    return tuple([int(word) if is_integer_word(word) else word for word in words])


class Opened:
    """A repeat, an either or a switch whose end did not come yet."""

    def __init__(self, head):
        self.head = head
        self.blocks = [[]] if head[0] == "repeat" else []
        self.cases = []

    def whole(self):
        """The item with all its blocks."""
        if self.head[0] == "repeat":
            return self.head + (self.blocks[0],)
        if self.head[0] == "either":
            return self.head + (self.blocks,)
        return self.head + (list(zip(self.cases, self.blocks)),)


class Builder:
    """The items of the lines that were taken so far."""

    def __init__(self):
        self.outermost = []
        self.opened = []

    def take(self, parts):
        """Takes the parts of the following line. Returns False if it cannot stand here."""
        if parts[0] == "end":
            return self._close()
        if parts[0] in BEGINNERS:
            return self._begin_block(parts)
        blocks = self.opened[-1].blocks if self.opened else [self.outermost]
        if not blocks:
            return False
        if parts[0] not in OPENERS:
            blocks[-1].append(parts)
            return True
        if len(self.opened) == MOST_OPEN:
            return False
        self.opened.append(Opened(parts))
        return True

    def _close(self):
        if not self.opened:
            return False
        item = self.opened.pop().whole()
        blocks = self.opened[-1].blocks if self.opened else [self.outermost]
        blocks[-1].append(item)
        return True

    def _begin_block(self, parts):
        if not self.opened or self.opened[-1].head[0] != BEGINNERS[parts[0]]:
            return False
        self.opened[-1].blocks.append([])
        self.opened[-1].cases.extend(parts[1:])
        return True


def parse_shape(text):
    """The shape whose written form is the text. Raises InvalidNotation, then InvalidShape."""
    builder = Builder()
    lines = text.split("\n")
    for at, line in enumerate(lines):
        parts = parts_of(line.split(" "))
        if parts is None or not builder.take(parts):
            raise InvalidNotation(at + 1)
    if builder.opened:
        raise InvalidNotation(len(lines) + 1)
    return Shape(builder.outermost)
