"""The rules that the parts of each kind of item keep, and the lengths that they tell.

Each rule takes an item and the numbers that are visible to it, a dict of their lows and highs.
It returns the least and the greatest length of the item, or raises InvalidShape.
"""

from byteshape.errors import InvalidShape

GREATEST_BYTE = 255
GREATEST_PAIR = 65535
GREATEST_LENGTH = 64
GREATEST_COUNT = 16
GREATEST_MODULUS = 16
MULTIPLES = (1, 2, 4, 8, 16)


def is_integer(value, low, high):
    """Tells whether a value is an integer between two bounds; True and False are none."""
    return isinstance(value, int) and not isinstance(value, bool) and low <= value <= high


def require(holds, words):
    """Raises InvalidShape with these words unless a rule holds."""
    if not holds:
        raise InvalidShape(words)


def amount_bounds(amount, visible, most):
    """The least and the greatest value of a length or a count, which is at most `most`."""
    if isinstance(amount, str):
        require(amount in visible, f"no visible number {amount!r}")
        low, high = visible[amount]
        require(high <= most, f"the number {amount!r} can be greater than {most}")
        return (low, high)
    require(is_integer(amount, 0, most), f"not from 0 to {most}")
    return (amount, amount)


def number_lengths(item, visible):
    size, order, low, high = item[2:]
    require(is_integer(size, 1, 2), "a number has 1 or 2 bytes")
    require(order in ("big", "little"), "an order is big or little")
    greatest = GREATEST_BYTE if size == 1 else GREATEST_PAIR
    require(is_integer(high, 0, greatest), f"a high is from 0 to {greatest}")
    require(is_integer(low, 0, high), "a low is from 0 to the high")
    return (size, size)


def bytes_lengths(item, visible):
    return amount_bounds(item[2], visible, GREATEST_LENGTH)


def text_lengths(item, visible):
    require(is_integer(item[2], 0, GREATEST_BYTE), "a stop is a byte")
    require(is_integer(item[3], 0, GREATEST_LENGTH), f"a text has at most {GREATEST_LENGTH} bytes")
    return (1, item[3] + 1)


def repeat_lengths(item, visible):
    fewest, most = amount_bounds(item[2], visible, GREATEST_COUNT)
    least, greatest = list_lengths(item[3], visible)
    require(least >= 1, "a round of a repeat needs a byte")
    return (fewest * least, most * greatest)


def either_lengths(item, visible):
    told = [list_lengths(block, visible) for block in item[2]]
    empty = [least for least, _ in told if least == 0]
    require(len(empty) <= 1, "only one choice can have no bytes")
    return (min([least for least, _ in told]), max([greatest for _, greatest in told]))


def switch_lengths(item, visible):
    tag = item[2]
    require(isinstance(tag, str) and tag in visible, "a tag is a visible number")
    values = [value for value, _ in item[3]]
    for value in values:
        require(is_integer(value, 0, GREATEST_PAIR), f"a case is from 0 to {GREATEST_PAIR}")
    require(len(set(values)) == len(values), "two cases of one value")
    told = [list_lengths(block, visible) for _, block in item[3]]
    return (min([least for least, _ in told]), max([greatest for _, greatest in told]))


def check_lengths(item, visible):
    require(is_integer(item[2], 1, GREATEST_MODULUS), f"a modulus is from 1 to {GREATEST_MODULUS}")
    return (1, 1)


def pad_lengths(item, visible):
    multiple = item[2]
    require(is_integer(multiple, 1, 16) and multiple in MULTIPLES, "a multiple is 1, 2, 4, 8 or 16")
    require(is_integer(item[3], 0, GREATEST_BYTE), "a pad is made of a byte")
    return (0, multiple - 1)


RULES = {
    "number": number_lengths,
    "bytes": bytes_lengths,
    "text": text_lengths,
    "repeat": repeat_lengths,
    "either": either_lengths,
    "switch": switch_lengths,
    "check": check_lengths,
    "pad": pad_lengths,
}


def list_lengths(items, visible):
    """The least and the greatest length of a list of items, all of which keep the rules."""
    known = dict(visible)
    least = 0
    greatest = 0
    for item in items:
        rule = RULES[item[0]]
        low, high = rule(item, known)
        least += low
        greatest += high
        if item[0] == "number":
            known[item[1]] = (item[4], item[5])
    return (least, greatest)
