"""Changes between the contents of two readings, and the spots of a content."""

from byteshape.reading import copied


class Change:
    """What stands at a spot of the first content, and what stands there in the second one."""

    def __init__(self, spot, before, after):
        self.spot = tuple(spot)
        self.before = copied(before)
        self.after = copied(after)


def changes(shape, one, other):
    """The list of the Changes between two contents of readings of files of a shape."""
    return list_changes(shape, (), one, other)


def list_changes(shape, spot, one, other):
    """The Changes between two lists of values of the same items, which stand at this spot."""
    found = []
    for (name, before), (_, after) in zip(one, other):
        found.extend(item_changes(shape, spot + (name,), before, after))
    return found


def item_changes(shape, spot, before, after):
    """The Changes between two values of the item whose name ends the spot."""
    kind = shape.item(spot[-1])[0]
    if kind == "repeat":
        return round_changes(shape, spot, before, after)
    if kind == "either" and before[0] == after[0]:
        return list_changes(shape, spot + (before[0],), before[1], after[1])
    if kind == "switch" and names_in(before) == names_in(after):
        return list_changes(shape, spot, before, after)
    return [Change(spot, before, after)] if before != after else []


def round_changes(shape, spot, before, after):
    """The Changes between the rounds of a repeat."""
    both = min(len(before), len(after))
    found = []
    for number in range(both):
        found.extend(list_changes(shape, spot + (number,), before[number], after[number]))
    for number in range(both, len(before)):
        found.append(Change(spot + (number,), before[number], None))
    for number in range(both, len(after)):
        found.append(Change(spot + (number,), None, after[number]))
    return found


def names_in(content):
    """The names in a list of values."""
    return [name for name, _ in content]


def changed(content, made):
    """The content in which the Changes of a list are made, one after another."""
    found = copied(content)
    for change in made:
        found = with_value(found, change.spot, copied(change.after))
    return found


def with_value(value, spot, after):
    """A value in which something else stands at a spot within it."""
    if not spot:
        return after
    part, rest = spot[0], spot[1:]
    if isinstance(value, tuple):
        return (value[0], with_value(value[1], rest, after))
    if isinstance(part, str):
        return [(name, with_value(one, rest, after) if name == part else one) for name, one in value]
    if not rest and after is None:
        return value[:part]
    if not rest and part >= len(value):
        return value + [after]
    return [with_value(one, rest, after) if number == part else one for number, one in enumerate(value)]


def value_at(content, spot):
    """A copy of what stands at a spot of a content, or None if there is no such spot."""
    value = content
    for part in spot:
        value = within(value, part)
    return copied(value)


def within(value, part):
    """What stands within a value under one part of a spot, or None."""
    if isinstance(value, tuple):
        return value[1] if value[0] == part else None
    if not isinstance(value, list):
        return None
    if isinstance(part, str):
        found = [entry[1] for entry in value if isinstance(entry, tuple) and entry[0] == part]
        return found[0] if found else None
    # The elements of bytes and of a text are no lists.
    if 0 <= part < len(value) and isinstance(value[part], list):
        return value[part]
    return None
