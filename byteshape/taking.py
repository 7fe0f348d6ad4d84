"""How one item takes bytes.

How far an item is, is told by one value: of bytes and a pad, how many bytes still come; of a text,
how many bytes came; of a check, the byte that is awaited; of a number, FRESH ahead of its first byte.
Behind the first of two bytes it is this byte, or, if the value is not asked for later, the tuple of
the least and the greatest second byte.
"""

FRESH = -1


def second_bytes(item, first):
    """The least and the greatest second byte of a number behind its first one, or None."""
    order, low, high = item[3:]
    if order == "big":
        if not low // 256 <= first <= high // 256:
            return None
        least = low % 256 if first == low // 256 else 0
        greatest = high % 256 if first == high // 256 else 255
        return (least, greatest)
    least = (low - first + 255) // 256
    greatest = (high - first) // 256
    return (least, greatest) if least <= greatest else None


def weight_of(item, far):
    """How much each unit of the next byte of a number counts in its value."""
    if item[2] == 1:
        return 1
    return 256 if (far == FRESH) == (item[3] == "big") else 1


def take_number(item, far, byte, asked):
    """As `taken`, of a number whose value is asked for later or is not."""
    size, order, low, high = item[2:]
    if size == 1:
        return (False, byte if asked else None) if low <= byte <= high else None
    if far == FRESH:
        bounds = second_bytes(item, byte)
        if bounds is None:
            return None
        return (True, byte if asked else bounds)
    least, greatest = second_bytes(item, far) if asked else far
    if not least <= byte <= greatest:
        return None
    if not asked:
        return (False, None)
    return (False, far * 256 + byte if order == "big" else byte * 256 + far)


def taken(item, far, byte, asked):
    """What an item that is so far makes of a byte: None if it does not take it.

    Otherwise (True, far) if it waits for more bytes, and (False, value) if this was its last one.
    The value is None but for a number whose value is asked for later.
    """
    kind = item[0]
    if kind == "number":
        return take_number(item, far, byte, asked)
    if kind == "text":
        if byte == item[2]:
            return (False, None)
        return (True, far + 1) if far < item[3] else None
    if kind == "check":
        return (False, None) if byte == far else None
    if kind == "pad" and byte != item[3]:
        return None
    return (True, far - 1) if far > 1 else (False, None)
