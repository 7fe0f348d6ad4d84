"""Nearest files: points 68 to 70."""

import itertools
import random
import unittest

from brute import some_tried
from byteshape.errors import InvalidFile, TooMany
from byteshape.lengths import lengths
from byteshape.machine import Machine
from byteshape.nearest import Nearest, nearest
from byteshape.reading import is_read
from byteshape.shapes import Shape
from made import NO_FILES, number, shape, some, too_many
from shapes_at_random import file_at_random, shape_at_random


def differences(one, other):
    """The number of places at which two files of one length differ."""
    return sum(a != b for a, b in zip(one, other))


class NearestTest(unittest.TestCase):
    def check(self, items, file, changes, wanted):
        given = list(file)
        found = nearest(shape(*items), given)
        self.assertEqual(given, file)
        if wanted is None:
            self.assertIsNone(found, (items, file))
            return
        self.assertEqual((found.changes, found.file), (changes, wanted), (items, file))

    def test_example(self):
        found = nearest(Shape([("number", "n", 1, "big", 1, 3), ("bytes", "b", "n")]), [9, 7, 5])
        self.assertIs(type(found), Nearest)
        self.assertEqual((found.changes, found.file), (1, [2, 7, 5]))

    def test_class(self):
        file = [1, 2]
        found = Nearest(3, file)
        file.append(9)
        self.assertEqual((found.changes, found.file), (3, [1, 2]))

    def test_files_that_are_read(self):
        self.check([number(), some("b", "n")], [2, 255, 0], 0, [2, 255, 0])
        self.check([("text", "t", 3, 2)], [9, 9, 3], 0, [9, 9, 3])
        self.check([some("b", 0)], [], 0, [])

    def test_one_change(self):
        self.check([number(low=3)], [200], 1, [3])
        self.check([number(low=3)], [0], 1, [3])
        self.check([number(high=3), number("m", high=3)], [9, 2], 1, [0, 2])
        self.check([number(high=3), number("m", high=3)], [2, 9], 1, [2, 0])
        self.check([some("a"), ("check", "c", 7)], [200, 9], 1, [200, 4])
        self.check([some("a", 3), ("pad", "p", 4, 6)], [1, 2, 3, 4], 1, [1, 2, 3, 6])
        self.check([("text", "t", 0, 9)], [5, 6, 7], 1, [5, 6, 0])
        self.check([("text", "t", 0, 9)], [5, 0, 7, 8], 2, [5, 1, 7, 0])

    def test_two_and_three_changes(self):
        items = [number(low=3, high=4), number("m", low=7), number("o", low=5)]
        self.check(items, [3, 0, 0], 2, [3, 7, 5])
        self.check(items, [0, 9, 99], 2, [3, 9, 5])
        self.check(items, [9, 99, 4], 3, [3, 7, 5])
        self.check([("repeat", "r", 3, [number(low=1), some("b", "n")])], [0, 9, 0, 0, 2, 0, 0], 2, [1, 9, 1, 0, 2, 0, 0])

    def test_first_one_of_several(self):
        # Either byte can change, and the first file leaves the first byte if it becomes greater.
        item = ("either", "e", [[number("a", low=5, high=5), number("b", low=5, high=5)], [number("c", low=1, high=1), number("d", low=8, high=8)]])
        self.check([item], [5, 8], 1, [1, 8])
        self.check([item], [1, 5], 1, [1, 8])
        self.check([item], [5, 9], 1, [5, 5])
        self.check([item], [0, 0], 2, [1, 8])
        self.check([some("a"), ("check", "c", 16)], [3, 5], 1, [3, 3])
        self.check([some("a"), ("check", "c", 16)], [9, 5], 1, [5, 5])
        self.check([some("a"), ("check", "c", 16)], [20, 20], 1, [20, 4])
        self.check([some("a"), some("b"), ("check", "c", 16)], [1, 1, 5], 1, [1, 1, 2])
        self.check([some("a"), some("b"), ("check", "c", 16)], [9, 9, 5], 1, [9, 9, 2])
        self.check([some("a"), some("b"), ("check", "c", 16)], [9, 9, 12], 1, [3, 9, 12])

    def test_fewest_changes_ahead_of_the_order(self):
        item = ("either", "e", [[number("a", low=0, high=0), number("b", low=0, high=0)], [number("c", low=9), number("d", low=8, high=8)]])
        self.check([item], [9, 7], 1, [9, 8])
        self.check([item], [7, 7], 2, [0, 0])

    def test_numbers_of_two_bytes(self):
        self.check([number(size=2, low=300, high=600)], [9, 200], 1, [1, 200])
        self.check([number(size=2, low=300, high=600)], [1, 40], 1, [1, 44])
        self.check([number(size=2, low=300, high=600)], [2, 99], 1, [1, 99])
        self.check([number(size=2, order="little", low=300, high=600)], [99, 2], 1, [0, 2])
        self.check([number(size=2, order="little", low=300, high=600)], [99, 0], 1, [99, 1])
        self.check([number(size=2, high=3), some("b", "n")], [0, 4, 9, 9], 1, [0, 2, 9, 9])
        self.check([number(size=2, high=3), some("b", "n")], [7, 7, 9, 9], 2, [0, 2, 9, 9])

    def test_greater_bytes_that_are_kept(self):
        self.check([number(low=2, high=2), some("b", 2)], [3, 255, 254], 1, [2, 255, 254])
        self.check([number(high=0), ("check", "c", 16), some("b")], [9, 9, 77], 2, [0, 0, 77])

    def test_no_file_of_this_length(self):
        self.check([number(low=1, high=3), some("b", "n")], [1], 0, None)
        self.check([number(low=1, high=3), some("b", "n")], [], 0, None)
        self.check([number(low=1, high=3), some("b", "n")], [3, 0, 0, 0, 0], 0, None)
        self.check([number(), ("switch", "s", "n", [(10, [])])], [3], 0, None)
        self.check([("either", "e", [[some("a")], [some("b", 3)]])], [0, 0], 0, None)
        self.check([number(high=3), some("b", "n"), ("pad", "p", 4, 0)], [1, 9, 0], 0, None)
        self.check([number()], [0] * 4096, 0, None)

    def test_longest_files(self):
        made = shape(("repeat", "r", 16, [("repeat", "q", 16, [some("b", 15), ("text", "t", 7, 0)])]))
        found = nearest(made, [5] * 4096, limit=4)
        self.assertEqual((found.changes, found.file), (256, ([5] * 15 + [7]) * 256))
        self.assertEqual(nearest(made, found.file).changes, 0)

    def test_no_files(self):
        made = shape(number(), some("b", "n"), some("c", 3))
        for file in NO_FILES + [[None], [1, None], [None] * 4097]:
            with self.assertRaises(InvalidFile):
                nearest(made, file, limit=1)

    def test_answers_are_new(self):
        made = shape(number(), some("b", "n"))
        nearest(made, [1, 5]).file.clear()
        self.assertEqual(nearest(made, [1, 5]).file, [1, 5])
        given = [1, 5]
        nearest(made, given).file.append(3)
        self.assertEqual(given, [1, 5])


class LimitTest(unittest.TestCase):
    def exactly(self, items, file, most):
        made = shape(*items)
        nearest(made, file, limit=most)
        for limit in range(1, most):
            self.assertTrue(too_many(lambda limit: nearest(made, file, limit=limit), limit), (items, file, limit))

    def test_all_bytes_count(self):
        self.exactly([number(), some("b", "n")], [5], 10)
        self.exactly([number(), some("b", "n")], [5, 1, 1, 1, 1, 1], 10)
        self.exactly([number(high=20), some("b", "n")], [1, 1], 21)
        self.exactly([some("b", 64), some("c", 64)], [3] * 128, 1)

    def test_before_the_first_byte_and_behind_all(self):
        self.exactly([("either", "e", [[some("a")], [some("b")], [some("c")]])], [], 3)
        self.exactly([("either", "e", [[some("a")], [some("b")], [some("c")]])], [1, 1, 1], 3)
        self.exactly([some("a", 2), number(), some("b", "n")], [1, 1], 1)
        self.exactly([some("a", 2), number(), some("b", "n")], [1, 1, 1], 10)

    def test_also_if_there_is_none(self):
        self.exactly([number(), some("b", "n"), ("switch", "s", "n", [(12, [])])], [5, 1, 1], 9)
        self.exactly([number(), some("b", "n")], [5] * 20, 10)

    def test_numbers_of_two_bytes(self):
        self.exactly([number(size=2, low=0x0105, high=0x0310), some("b")], [1, 9, 0], 3)

    def test_usual_limit(self):
        made = shape(number(high=16), ("repeat", "r", "n", [number("m"), some("b", "m"), ("text", "t", 0, 5)]), ("check", "c", 16))
        self.assertTrue(too_many(lambda limit: nearest(made, [0] * 60), 2000))

    def test_tiny_shapes(self):
        for made, found in some_tried():
            for length in range(made.greatest_length + 2):
                rows = [[one.states for one in found.values() if len(one.file) == place] for place in range(length + 1)]
                most = max(len({state for states in row for state in states}) for row in rows)
                nearest(made, [0] * length, limit=most)
                if most > 1:
                    self.assertTrue(too_many(lambda limit: nearest(made, [0] * length, limit=limit), most - 1), (made.parts, length))


class TriedTest(unittest.TestCase):
    def test_tiny_shapes(self):
        met = [0] * 7
        for seed, (made, found) in enumerate(some_tried()):
            chance = random.Random(seed)
            for length in range(made.greatest_length + 2):
                read = [one.file for one in found.values() if one.readings and len(one.file) == length]
                self.assertEqual(bool(read), length in lengths(made))
                for _ in range(12):
                    file = [chance.randint(0, 6) for _ in range(length)]
                    if read and chance.random() < 0.5:
                        file = [byte if chance.random() < 0.7 else chance.randint(0, 6) for byte in chance.choice(read)]
                    told = nearest(made, file)
                    if not read:
                        self.assertIsNone(told)
                        continue
                    wanted = min(read, key=lambda one: (differences(one, file), one))
                    self.assertEqual((told.changes, told.file), (differences(wanted, file), wanted), (made.parts, file))
                    met[told.changes] += 1
        self.assertGreater(min(met[:5]), 20)

    def test_all_files_with_one_change(self):
        compared = 0
        for seed in range(100):
            made = shape_at_random(seed)
            data = file_at_random(Machine(made), seed, 9)
            if not data or not is_read(made, data):
                continue
            chance = random.Random(seed)
            file = list(data)
            file[chance.randrange(len(file))] = chance.randrange(256)
            try:
                found = nearest(made, file, limit=3000)
            except TooMany:
                continue
            self.assertEqual(found.changes, 0 if is_read(made, file) else 1)
            tries = []
            for place, byte in itertools.product(range(len(file)), range(256)):
                tries.append(file[:place] + [byte] + file[place + 1:])
            read = [one for one in tries if differences(one, file) == found.changes and is_read(made, one)]
            self.assertEqual(found.file, min(read), made.parts)
            compared += found.changes
        self.assertGreater(compared, 20)


if __name__ == "__main__":
    unittest.main()
