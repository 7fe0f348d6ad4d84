"""Values of numbers of two bytes at several places of a file: points 56 and 60, compared with a plain search."""

import random
import unittest

from byteshape.machine import Machine
from byteshape.shapes import Shape
from byteshape.twice import two_values
from byteshape.versions import keeps
from plain_pairs import first_difference, values_told

MOST = 2000


class WideMaker:
    """Makes shapes with numbers of two bytes that stand at several places."""

    def __init__(self, seed):
        self.random = random.Random(seed)
        self.count = 0

    def name(self):
        self.count += 1
        return "x" + str(self.count)

    def number(self, name):
        if self.random.random() < 0.25:
            low = self.random.randint(0, 200)
            return ("number", name, 1, "big", low, min(255, low + self.random.choice([0, 1, 5, 55])))
        low = self.random.choice([0, 0, 1, 100, 250, 255, 256, 300, 1000])
        order = self.random.choice(["big", "little"])
        return ("number", name, 2, order, low, low + self.random.choice([0, 1, 5, 50, 256, 300]))

    def shift(self):
        blocks = [[("bytes", self.name(), many)] if many else [] for many in self.random.sample([0, 1, 2, 3], 2)]
        return ("either", self.name(), blocks)

    def version(self, made):
        """A shape of the same items with another number n, in another order."""
        items = list(made.with_item("n", self.number("n")).parts)
        self.random.shuffle(items)
        return Shape(items)

    def shape(self, shifted):
        items = [self.number("n")]
        if self.random.random() < 0.5:
            items.append(self.number("m"))
        if self.random.random() < 0.4:
            items.append(("check", self.name(), self.random.randint(1, 3)))
        if self.random.random() < 0.3:
            items.append(("pad", self.name(), self.random.choice([2, 4]), self.random.randint(0, 2)))
        if shifted:
            items.append(self.shift())
        self.random.shuffle(items)
        return Shape(items + [self.shift()] if shifted else items)


class WideTest(unittest.TestCase):
    def test_two_values(self):
        met = []
        for seed in range(80):
            made = WideMaker(seed).shape(True)
            machine = Machine(made, tell=["n"])
            file = first_difference([machine, machine], MOST)
            if file == "many":
                continue
            found = two_values(made, "n", limit=10 ** 6)
            met.append(file)
            if file is None:
                self.assertIsNone(found, made.parts)
                continue
            self.assertEqual([found.file, found.first, found.second], [file] + values_told(machine, file)[:2], made.parts)
        self.assertGreater(len(met) - met.count(None), 5)

    def test_keeps(self):
        met = []
        for seed in range(80):
            maker = WideMaker(1000 + seed)
            made = maker.shape(seed % 3 == 0)
            shapes = [made, maker.version(made)]
            machines = [Machine(made, tell=["n"]) for made in shapes]
            file = first_difference(machines, MOST)
            if file == "many":
                continue
            found = keeps(shapes[0], shapes[1], ["n"], limit=10 ** 6)
            met.append(file)
            if file is None:
                self.assertIsNone(found, (shapes[0].parts, shapes[1].parts))
                continue
            values, others = [values_told(machine, file) for machine in machines]
            before = [value for value in values if others != [value]][0]
            after = [value for value in others if value != before][0]
            self.assertEqual([found.file, found.name, found.before, found.after], [file, "n", before, after])
        self.assertGreater(len(met) - met.count(None), 15)


if __name__ == "__main__":
    unittest.main()
