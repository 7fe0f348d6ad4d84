"""Items: what stands within one item of a shape, and the same item with something else within."""


def blocks_of(item):
    """The blocks of an item in their order; none for an item that has no blocks."""
    if item[0] == "repeat":
        return (item[3],)
    if item[0] == "either":
        return item[2]
    if item[0] == "switch":
        return tuple([block for _, block in item[3]])
    return ()


def with_blocks(item, blocks):
    """The same item with these blocks in the place of its own."""
    if item[0] == "repeat":
        return item[:3] + (blocks[0],)
    if item[0] == "either":
        return item[:2] + (tuple(blocks),)
    if item[0] == "switch":
        values = [value for value, _ in item[3]]
        return item[:3] + (tuple(zip(values, blocks)),)
    return item


def number_used(item):
    """The name of the number that is the length, the count or the tag of an item, or None."""
    # The third part of an item of another kind is never a string.
    return item[2] if isinstance(item[2], str) else None


def listed(items, depth):
    """The tuples (depth, item) of all items of a list and of their blocks, as they are read."""
    found = []
    for item in items:
        found.append((depth, item))
        for block in blocks_of(item):
            found.extend(listed(block, depth + 1))
    return found


def edited(items, name, made):
    """The items with those of the tuple `made` in the place of the item of this name."""
    found = []
    for item in items:
        if item[1] == name:
            found.extend(made)
        else:
            found.append(with_blocks(item, [edited(block, name, made) for block in blocks_of(item)]))
    return tuple(found)
