"""Machines: the states in which a shape can be while it reads a file byte by byte."""

from byteshape.errors import InvalidFile
from byteshape.layout import NOBODY, OUTERMOST, Layout
from byteshape.taking import FRESH, taken

LIMIT = 2000
LONGEST_FILE = 4096
# A state is a tuple: the number of the item that waits, how many rounds follow the present one for
# each repeat around it, how far the item is, the kept values, the kept sum and the kept place.
DONE = (NOBODY, (), FRESH, (), 0, 0)


def is_byte(value):
    """Tells whether a value is a byte; True and False are none."""
    return isinstance(value, int) and not isinstance(value, bool) and 0 <= value <= 255


def check_file(data):
    """Raises InvalidFile if the list is no file."""
    if not isinstance(data, list) or len(data) > LONGEST_FILE or not all([is_byte(one) for one in data]):
        raise InvalidFile("no list of at most 4096 bytes")


def sets_of(labels):
    """The sets (least, greatest, many) of the bytes of one label, for a label of each byte."""
    found = {}
    for byte, label in enumerate(labels):
        least, _, many = found.get(label, (byte, byte, 0))
        found[label] = (least, byte, many + 1)
    return sorted(found.values())


def joint_classes(waiting):
    """The sets of bytes of several states, for a list of tuples (machine, state)."""
    tables = {}
    for machine, state in waiting:
        tables[machine.labels(state)] = True
    rows = list(tables)
    return sets_of(list(zip(*rows)))


class Machine:
    """A machine of a shape; `tell` is a list of names of outer numbers."""

    def __init__(self, shape, *, tell=()):
        self.shape = shape
        self._layout = Layout(shape)
        names = {name: True for name in tell}
        self._told = [part[1] in names for part in self._layout.parts]
        self._asked = [told or self._layout.is_used(at) for at, told in enumerate(self._told)]
        self._labels = {}
        self._sets = {}

    def start(self):
        """The entries (state, choices) before the first byte."""
        return self._onward((OUTERMOST, 0, ()), {}, 0, 0)

    def step(self, state, byte):
        """The entries (state, choices, told) behind a byte that is taken in a state."""
        at, rounds, far, values, total, place = state
        if at == NOBODY:
            return []
        took = self._took(at, far, byte)
        if took is None:
            return []
        numbers, modulus, multiple = self._kept(at, rounds)
        total = (total + byte) % modulus if modulus else 0
        more, reached = took
        if more:
            place = (place + 1) % multiple if multiple else 0
            return [((at, rounds, reached, values, total, place), (), ())]
        known = dict(zip(numbers, values))
        told = ()
        if self._told[at]:
            told = ((self._layout.parts[at][1], reached),)
        known[at] = self._kept_alike(at, reached)
        spot = (self._layout.block[at], self._layout.spot[at] + 1, rounds)
        return [entry + (told,) for entry in self._onward(spot, known, total, place + 1)]

    def is_done(self, state):
        """Tells whether the file can end in this state."""
        return state[0] == NOBODY

    def waits(self, state):
        """The name of the item that waits for the next byte, or None."""
        if state[0] == NOBODY:
            return None
        return self._layout.parts[state[0]][1]

    def position(self, state):
        """Where the item that waits stands among the names of the shape, and how far it is.

        A done state stands behind the last name.
        """
        if state[0] == NOBODY:
            return (len(self._layout.parts), FRESH)
        return (state[0], state[2])

    def classes(self, state):
        """The sets of bytes of a state."""
        labels = self.labels(state)
        if labels not in self._sets:
            self._sets[labels] = sets_of(labels)
        return list(self._sets[labels])

    def labels(self, state):
        """A tuple of one number for each byte; bytes of the same number have the same step."""
        at, rounds, far = state[:3]
        if at == NOBODY:
            return (0,) * 256
        modulus = self._kept(at, rounds)[1]
        key = (at, far, modulus)
        if key not in self._labels:
            numbers = {}
            found = []
            for byte in range(256):
                label = self._label(at, far, byte, modulus)
                found.append(numbers.setdefault(label, len(numbers)))
            self._labels[key] = tuple(found)
        return self._labels[key]

    def _label(self, at, far, byte, modulus):
        """All on which the step of a byte can depend."""
        took = self._took(at, far, byte)
        if took is None:
            return None
        more, reached = took
        if not more and not self._told[at]:
            reached = self._kept_alike(at, reached)
        return (more, reached, byte % modulus if modulus else 0)

    def _took(self, at, far, byte):
        return taken(self._layout.parts[at], far, byte, self._asked[at])

    def _kept(self, at, rounds):
        return self._layout.asked_behind(at, tuple([follow > 0 for follow in rounds]))

    def _kept_alike(self, at, value):
        """The value of a number as it is kept: None for all values that no switch knows."""
        cases = self._layout.cases
        if at in cases and value not in cases[at]:
            return None
        return value

    def _waiting(self, at, rounds, far, known, total, place):
        """The state in which an item waits, with nothing kept but what is asked for behind it."""
        numbers, modulus, multiple = self._kept(at, rounds)
        values = tuple([known[number] for number in numbers])
        return (at, rounds, far, values, total if modulus else 0, place % multiple if multiple else 0)

    def _onward(self, spot, known, total, place):
        """The entries (state, choices) of all ways from a spot to the next item that needs a byte.

        A spot is a tuple of a block, a place in it, and how many rounds follow for the repeats around.
        """
        found = []
        ahead = [(spot, ())]
        while ahead:
            (block, place_there, rounds), choices = ahead.pop()
            here = self._layout.blocks[block]
            if place_there == len(here):
                if block == OUTERMOST:
                    found.append((DONE, choices))
                else:
                    ahead.append((self._behind_block(block, rounds), choices))
                continue
            at = here[place_there]
            far = self._far(at, known, total, place)
            if far is not None:
                found.append((self._waiting(at, rounds, far, known, total, place), choices))
                continue
            # The last one is popped first, so the choices come out in their order.
            for one, taken_here in reversed(self._spots(at, rounds, known)):
                ahead.append((one, choices + taken_here))
        return found

    def _behind_block(self, block, rounds):
        """The spot behind the last item of a block."""
        owner = self._layout.owner[block]
        if self._layout.parts[owner][0] == "repeat":
            if rounds[-1] > 0:
                return (block, 0, rounds[:-1] + (rounds[-1] - 1,))
            rounds = rounds[:-1]
        return (self._layout.block[owner], self._layout.spot[owner] + 1, rounds)

    def _far(self, at, known, total, place):
        """How far an item is that begins to wait, or None if it needs no byte itself."""
        item = self._layout.parts[at]
        if item[0] == "number":
            return FRESH
        if item[0] == "text":
            return 0
        if item[0] == "check":
            return total % item[2]
        if item[0] == "bytes":
            length = self._amount(at, known)
            return length if length > 0 else None
        if item[0] == "pad":
            rest = -place % item[2]
            return rest if rest > 0 else None
        return None

    def _spots(self, at, rounds, known):
        """Where an item that needs no byte itself leads to: tuples of a spot and the choices taken."""
        item = self._layout.parts[at]
        within = self._layout.within[at]
        if item[0] == "either":
            return [((block, 0, rounds), (number,)) for number, block in enumerate(within)]
        if item[0] == "switch":
            value = known[self._layout.used[at]]
            return [((block, 0, rounds), ()) for block, case in zip(within, item[3]) if case[0] == value]
        if item[0] == "repeat":
            count = self._amount(at, known)
            if count > 0:
                return [((within[0], 0, rounds + (count - 1,)), ())]
        return [((self._layout.block[at], self._layout.spot[at] + 1, rounds), ())]

    def _amount(self, at, known):
        """The length or the count that an item has now."""
        number = self._layout.used[at]
        return self._layout.parts[at][2] if number == NOBODY else known[number]
