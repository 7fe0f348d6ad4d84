"""Items with usual parts, for the tests."""

from byteshape.errors import InvalidShape, TooMany
from byteshape.shapes import Shape

NO_FILES = [[0] * 4097, [-1], [256], [True], [False], [0, None], ["0"], [[0]], "ab", None, (1, 2)]


def number(name="n", size=1, order="big", low=0, high=9):
    """A number."""
    return ("number", name, size, order, low, high)


def some(name="b", length=1):
    """Bytes."""
    return ("bytes", name, length)


def shape(*items):
    """The shape of these items."""
    return Shape(list(items))


def is_valid(*items):
    """Tells whether these items make a shape."""
    try:
        Shape(items)
    except InvalidShape:
        return False
    return True


def too_many(ask, limit):
    """Tells whether a question raises TooMany with just this limit."""
    try:
        ask(limit)
    except TooMany as error:
        return error.limit == limit
    return False
