"""The values of one reading: a file is read along a path."""

from byteshape.errors import NotRead


class Track:
    """How far one reading of a file is, and the choices that it follows."""

    def __init__(self, data, path):
        self.data = data
        self.path = path
        self.place = 0
        self.total = 0
        self.met = 0

    def take(self, many):
        """The next bytes. Raises NotRead if the file ends within them."""
        piece = self.data[self.place:self.place + many]
        self.place += len(piece)
        self.total += sum(piece)
        self.require(len(piece) == many)
        return piece

    def choose(self, many):
        """The next number of the path, for a choice of so many blocks. Raises NotRead."""
        self.require(self.met < len(self.path) and 0 <= self.path[self.met] < many)
        self.met += 1
        return self.path[self.met - 1]

    def require(self, holds):
        """Raises NotRead unless something holds."""
        if not holds:
            raise NotRead(self.place)


def content_of(items, data, path):
    """The content of the reading of a file along a path. Raises NotRead if there is none."""
    track = Track(data, path)
    content = list_content(items, track, {})
    track.require(track.place == len(data) and track.met == len(path))
    return content


def list_content(items, track, known):
    """The values of a list of items; `known` has the values of the numbers that are visible to it."""
    numbers = dict(known)
    found = []
    for item in items:
        if item[0] == "check":
            awaited = track.total % item[2]
            track.require(track.take(1) == [awaited])
        elif item[0] == "pad":
            rest = -track.place % item[2]
            track.require(track.take(rest) == [item[3]] * rest)
        else:
            value = item_value(item, track, numbers)
            found.append((item[1], value))
            if item[0] == "number":
                numbers[item[1]] = value
    return found


def item_value(item, track, numbers):
    """The value of one item."""
    kind = item[0]
    if kind == "number":
        return number_value(item, track)
    if kind == "text":
        return text_value(item, track)
    if kind == "bytes":
        return track.take(numbers.get(item[2], item[2]))
    if kind == "repeat":
        count = numbers.get(item[2], item[2])
        return [list_content(item[3], track, numbers) for _ in range(count)]
    if kind == "either":
        number = track.choose(len(item[2]))
        return (number, list_content(item[2][number], track, numbers))
    blocks = [block for value, block in item[3] if value == numbers[item[2]]]
    track.require(len(blocks) == 1)
    return list_content(blocks[0], track, numbers)


def number_value(item, track):
    """The value of a number."""
    size, order, low, high = item[2:]
    piece = track.take(size)
    if order == "little":
        piece.reverse()
    value = 0
    for byte in piece:
        value = value * 256 + byte
    track.require(low <= value <= high)
    return value


def text_value(item, track):
    """The bytes of a text ahead of its stop."""
    found = []
    byte = track.take(1)[0]
    while byte != item[2]:
        track.require(len(found) < item[3])
        found.append(byte)
        byte = track.take(1)[0]
    return found
