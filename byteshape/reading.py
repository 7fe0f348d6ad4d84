"""Readings: the ways in which a shape reads a file, and their values."""

from byteshape.content import content_of
from byteshape.errors import NotRead
from byteshape.machine import LIMIT, Machine, check_file
from byteshape.ways import all_levels, first_paths


def copied(value):
    """A copy of a value, with all lists in it."""
    if isinstance(value, list):
        return [copied(part) for part in value]
    if isinstance(value, tuple):
        return tuple([copied(part) for part in value])
    return value


class Reading:
    """One reading of a file: its path and its content."""

    def __init__(self, path, content):
        self.path = tuple(path)
        self.content = copied(content)


def paths_found(shape, data, limit, most):
    """The paths of the first readings, at most `most` of them. Raises InvalidFile, then TooMany and NotRead."""
    check_file(data)
    machine = Machine(shape)
    return first_paths(machine, all_levels(machine, data, limit), data, most)


def paths(shape, data, *, limit=LIMIT):
    """The paths of all readings of a file, in their order.

    Raises InvalidFile, then TooMany and NotRead.
    """
    # There are no more readings than ways, so none is left out.
    return paths_found(shape, data, limit, limit)


def values_by(shape, data, path):
    """The content of the reading of a file with this path. Raises InvalidFile, then NotRead."""
    check_file(data)
    return content_of(shape.parts, data, path)


def readings(shape, data, *, limit=LIMIT):
    """All readings of a file in the order of their paths. Raises as `paths`."""
    found = paths(shape, data, limit=limit)
    return [Reading(path, content_of(shape.parts, data, path)) for path in found]


def read(shape, data, *, limit=LIMIT):
    """The first reading of a file. Raises as `paths`."""
    path = paths_found(shape, data, limit, 1)[0]
    return Reading(path, content_of(shape.parts, data, path))


def is_read(shape, data, *, limit=LIMIT):
    """Tells whether a file has a reading. Raises InvalidFile, then TooMany."""
    check_file(data)
    try:
        all_levels(Machine(shape), data, limit)
    except NotRead:
        return False
    return True
