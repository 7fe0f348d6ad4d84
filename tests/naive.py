"""The words of the document, done as plainly as possible: what the tests compare the program with."""


def blocks(item):
    """The blocks of an item."""
    if item[0] == "repeat":
        return [item[3]]
    if item[0] == "either":
        return list(item[2])
    if item[0] == "switch":
        return [block for value, block in item[3]]
    return []


def all_items(items):
    """All items of a list, with those of their blocks."""
    found = []
    for item in items:
        found.append(item)
        for block in blocks(item):
            found.extend(all_items(block))
    return found


def chain(items, name):
    """The pairs (list, index) that lead to the item of this name, the outermost list first."""
    for index, item in enumerate(items):
        if item[1] == name:
            return [(items, index)]
        for block in blocks(item):
            below = chain(block, name)
            if below:
                return [(items, index)] + below
    return []


def encodings(item):
    """The values of a number with the bytes that write them."""
    _, _, size, order, low, high = item
    return [(value, list(value.to_bytes(size, order))) for value in range(low, high + 1)]


class Ways:
    """All ways that take all of some bytes.

    `done` has the paths of the ways that are done behind the last byte, and their contents; `waiting`
    has (path, item, rounds, how far, numbers, bytes) of the ways that wait for more.
    """

    def __init__(self, items, data):
        self.data = list(data)
        self.done = []
        self.waiting = []
        self.items(items, 0, (), {}, 0, (), [], self.finish)

    def finish(self, place, path, content):
        if place == len(self.data):
            self.done.append((path, content))

    def wait(self, path, item, rounds, far, numbers):
        self.waiting.append((path, item, rounds, far, numbers, self.data))

    def items(self, items, index, rounds, numbers, place, path, content, on):
        if index == len(items):
            on(place, path, content)
            return
        item = items[index]

        def further(place, path, value=None, numbers=numbers):
            more = [] if item[0] in ("check", "pad") else [(item[1], value)]
            self.items(items, index + 1, rounds, numbers, place, path, content + more, on)

        getattr(self, "do_" + item[0])(item, rounds, numbers, place, path, further)

    def do_number(self, item, rounds, numbers, place, path, further):
        piece = self.data[place:place + item[2]]
        found = [value for value, told in encodings(item) if told[:len(piece)] == piece]
        if not found:
            return
        if len(piece) < item[2]:
            self.wait(path, item, rounds, tuple(piece), numbers)
            return
        further(place + item[2], path, found[0], {**numbers, item[1]: found[0]})

    def do_bytes(self, item, rounds, numbers, place, path, further):
        length = numbers[item[2]] if isinstance(item[2], str) else item[2]
        piece = self.data[place:place + length]
        if len(piece) < length:
            self.wait(path, item, rounds, length - len(piece), numbers)
            return
        further(place + length, path, piece)

    def do_text(self, item, rounds, numbers, place, path, further):
        came = []
        for byte in self.data[place:]:
            if byte == item[2]:
                further(place + len(came) + 1, path, came)
                return
            if len(came) == item[3]:
                return
            came.append(byte)
        self.wait(path, item, rounds, len(came), numbers)

    def do_check(self, item, rounds, numbers, place, path, further):
        awaited = sum(self.data[:place]) % item[2]
        if place == len(self.data):
            self.wait(path, item, rounds, awaited, numbers)
        elif self.data[place] == awaited:
            further(place + 1, path)

    def do_pad(self, item, rounds, numbers, place, path, further):
        end = place
        while end % item[2]:
            end += 1
        piece = self.data[place:end]
        if any(byte != item[3] for byte in piece):
            return
        if len(piece) < end - place:
            self.wait(path, item, rounds, end - place - len(piece), numbers)
            return
        further(end, path)

    def do_repeat(self, item, rounds, numbers, place, path, further):
        count = numbers[item[2]] if isinstance(item[2], str) else item[2]

        def round_from(place, path, values):
            if len(values) == count:
                further(place, path, values)
                return
            follow = count - len(values) - 1
            self.items(item[3], 0, rounds + (follow,), numbers, place, path, [],
                       lambda place, path, content: round_from(place, path, values + [content]))

        round_from(place, path, [])

    def do_either(self, item, rounds, numbers, place, path, further):
        for number, block in enumerate(item[2]):
            self.items(block, 0, rounds, numbers, place, path + (number,), [],
                       lambda place, path, content, number=number: further(place, path, (number, content)))

    def do_switch(self, item, rounds, numbers, place, path, further):
        for value, block in item[3]:
            if value == numbers[item[2]]:
                self.items(block, 0, rounds, numbers, place, path, [], further)


def used(item):
    """The name of the number that an item uses, or None."""
    return item[2] if item[0] in ("bytes", "repeat", "switch") and isinstance(item[2], str) else None


def can_begin(items, name, rounds):
    """The items that can still begin behind the item of this name, and those of the rounds that follow.

    The second list has tuples of the items of a repeat and the names outside of its block.
    """
    way = chain(items, name)
    later = []
    for block, index in way:
        later.extend(all_items(block[index + 1:]))
    again = []
    follow = list(rounds)
    for block, index in way[:-1]:
        if block[index][0] == "repeat" and follow.pop(0) > 0:
            inside = all_items(block[index][3])
            again.append((inside, [item[1] for item in inside]))
    return later, again


def described(items, waiting, tell=()):
    """All that makes the state of a way, as the points 18 and 19 say."""
    _, item, rounds, far, numbers, data = waiting
    later, again = can_begin(items, item[1], rounds)
    kept = []
    for name, value in sorted(numbers.items()):
        asked = any(used(one) == name for one in later)
        for inside, names in again:
            asked = asked or (name not in names and any(used(one) == name for one in inside))
        if asked and name != item[1]:
            kept.append((name, alike(items, name, value)))
    begin = later + [one for inside, _ in again for one in inside]
    sums = [sum(data) % one[2] for one in begin if one[0] == "check"]
    multiples = [one[2] for one in begin if one[0] == "pad"]
    place = len(data) % max(multiples) if multiples else None
    if item[0] == "number":
        far = number_far(items, item, far, tell)
    return (item[1], rounds, far, tuple(kept), tuple(sums[:1]), place)


def alike(items, name, value):
    """A value of a number as it is kept."""
    users = [one for one in all_items(items) if used(one) == name]
    if all(one[0] == "switch" for one in users):
        if not any(value == case for one in users for case, _ in one[3]):
            return "no case"
    return value


def number_far(items, item, piece, tell):
    """How far a number is behind some of its bytes."""
    if not piece:
        return "first"
    if item[1] in tell or any(used(one) == item[1] for one in all_items(items)):
        return piece
    seconds = [told[1] for _, told in encodings(item) if told[0] == piece[0]]
    return (min(seconds), max(seconds), "second")
