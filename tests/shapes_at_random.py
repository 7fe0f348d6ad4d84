"""Shapes and files at random, from a seed, always the same."""

import random

from byteshape.errors import InvalidShape
from byteshape.shapes import Shape


class Maker:
    """Makes items with small bounds, so that files are often read."""

    def __init__(self, seed):
        self.random = random.Random(seed)
        self.plain = seed % 2 == 0
        self.count = 0
        self.checked = False

    def shape(self, least, most):
        """The shape of some items, or None if they break a rule."""
        try:
            return Shape(self.block(0, {}, least, most))
        except InvalidShape:
            return None

    def name(self):
        self.count += 1
        return "x" + str(self.count)

    def block(self, depth, visible, least, most):
        visible = dict(visible)
        found = []
        for _ in range(self.random.randint(least, most)):
            item = self.item(depth, visible)
            found.append(item)
            if item[0] == "number":
                visible[item[1]] = item[5]
        return found

    def item(self, depth, visible):
        kinds = ["number", "number", "bytes", "text", "pad", "check"]
        if depth < 3:
            # Every second shape is made of blocks rather than of plain items.
            kinds = kinds + ["repeat", "either", "either", "switch"] * (1 if self.plain else 3)
        kind = self.random.choice(kinds)
        if kind == "check" and self.checked or kind == "switch" and not visible:
            kind = "number"
        return getattr(self, kind)(depth, visible)

    def amount(self, visible, most):
        names = [name for name, high in visible.items() if high <= most]
        if names and self.random.random() < 0.7:
            return self.random.choice(names)
        return self.random.randint(0, 3)

    def number(self, depth, visible):
        if self.random.random() < 0.7:
            low = self.random.randint(0, 2)
            return ("number", self.name(), 1, "big", low, low + self.random.randint(0, 3))
        low = self.random.choice([0, 1, 2, 250, 300])
        high = low + self.random.choice([0, 2, 5, 100, 256, 600])
        return ("number", self.name(), 2, self.random.choice(["big", "little"]), low, high)

    def bytes(self, depth, visible):
        return ("bytes", self.name(), self.amount(visible, 64))

    def text(self, depth, visible):
        return ("text", self.name(), self.random.randint(0, 3), self.random.randint(0, 3))

    def check(self, depth, visible):
        self.checked = True
        return ("check", self.name(), self.random.randint(1, 16))

    def pad(self, depth, visible):
        return ("pad", self.name(), self.random.choice([1, 2, 4, 8]), self.random.randint(0, 2))

    def repeat(self, depth, visible):
        name = self.name()
        return ("repeat", name, self.amount(visible, 16), self.block(depth + 1, visible, 1, 3))

    def either(self, depth, visible):
        name = self.name()
        many = self.random.randint(2, 3)
        return ("either", name, [self.block(depth + 1, visible, 0, 3) for _ in range(many)])

    def switch(self, depth, visible):
        name = self.name()
        values = self.random.sample([0, 1, 2, 3, 4, 5, 300], self.random.randint(1, 4))
        tag = self.random.choice(list(visible))
        return ("switch", name, tag, [(value, self.block(depth + 1, visible, 0, 2)) for value in values])


def shape_at_random(seed):
    """A shape that is told by a seed."""
    for further in range(1000):
        made = Maker(seed * 1001 + further).shape(2, 7)
        if made is not None:
            return made
    raise AssertionError("no shape found")


def file_at_random(machine, seed, longest):
    """A list of bytes that is told by a seed, most of which the machine takes."""
    chance = random.Random(seed)
    states = [state for state, _ in machine.start()]
    data = []
    while states and len(data) < longest and chance.random() < 0.99:
        taken = [byte for byte in range(256) for state in states[:3] if machine.step(state, byte)]
        done = any(machine.is_done(state) for state in states)
        if done and (not taken or chance.random() < 0.3) and chance.random() < 0.9:
            break
        if not taken or chance.random() < 0.01:
            taken = [0, 1, 2, 3, 255]
        data.append(chance.choice(taken + taken[:1] * 3))
        states = [entry[0] for state in states for entry in machine.step(state, data[-1])]
    return data
