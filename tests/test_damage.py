"""Damaged files: points 65 to 68."""

import itertools
import random
import unittest

from brute import MANY, some_tried
from byteshape.counting import count_readings
from byteshape.damage import Certain, certain, sure_numbers
from byteshape.errors import InvalidFile
from byteshape.machine import Machine
from byteshape.reading import is_read, readings
from byteshape.shapes import Shape
from made import number, shape, some, too_many
from shapes_at_random import file_at_random, shape_at_random

NO_DAMAGED_FILES = ([-1], [256], [True], [False], [None, True], ["0"], [[]], [[None]], [None] * 4097, [0] * 4097, [0] * 4096 + [None],
                    [None, 256], (None, 1), "ab", None, {})


class CertainTest(unittest.TestCase):
    def check(self, items, damaged, count, bounds):
        made = shape(*items)
        given = list(damaged)
        found = certain(made, given)
        self.assertEqual((found.count, found.bounds), (count, bounds), (items, damaged))
        sure = [(name, least) for name, least, greatest in bounds if least == greatest]
        self.assertEqual(sure_numbers(made, given), sure)
        self.assertEqual(given, damaged)

    def test_example(self):
        made = Shape([("number", "n", 1, "big", 1, 3), ("bytes", "b", "n")])
        found = certain(made, [None, 7, None])
        self.assertIs(type(found), Certain)
        self.assertEqual((found.count, found.bounds), (256, [("n", 2, 2)]))
        self.assertEqual(sure_numbers(made, [None, 7, None]), [("n", 2)])

    def test_class(self):
        bounds = [("n", 1, 2)]
        found = Certain(5, bounds)
        bounds.append(("m", 0, 0))
        self.assertEqual((found.count, found.bounds), (5, [("n", 1, 2)]))

    def test_no_unknown_byte(self):
        items = [number(), some("b", "n"), number("m", 2, "little", 0, 700)]
        self.check(items, [1, 7, 3, 2], 1, [("n", 1, 1), ("m", 515, 515)])
        self.check(items, [1, 7, 3, 3], 0, [])
        self.check(items, [1, 7, 3], 0, [])
        self.check([some("b", 0)], [], 1, [])
        self.check([some("b", 1)], [], 0, [])

    def test_one_unknown_byte(self):
        self.check([number(low=3)], [None], 7, [("n", 3, 9)])
        self.check([number(low=3), some("b")], [5, None], 256, [("n", 5, 5)])
        self.check([number(low=3), some("b")], [None, 5], 7, [("n", 3, 9)])
        self.check([("text", "t", 0, 3)], [1, None, 0], 255, [])
        self.check([("text", "t", 0, 3)], [1, None, 1], 0, [])
        self.check([some("a"), ("check", "c", 7), number()], [5, None, 3], 1, [("n", 3, 3)])
        self.check([some("a"), ("check", "c", 7), number()], [None, 5, 3], 36, [("n", 3, 3)])
        self.check([some("a"), ("pad", "p", 2, 9)], [1, None], 1, [])

    def test_several_unknown_bytes(self):
        items = [number(), some("b", "n"), number("m")]
        self.check(items, [None, 7, None], 10, [("n", 1, 1), ("m", 0, 9)])
        self.check(items, [None, None, 5, None], 256 * 10, [("n", 2, 2), ("m", 0, 9)])
        self.check(items, [2, None, None, 5], 256 ** 2, [("n", 2, 2), ("m", 5, 5)])

    def test_only_unknown_bytes(self):
        for length in range(1, 6):
            items = [number(low=1, high=3), ("repeat", "r", "n", [number("m", high=4)])]
            many = 5 ** (length - 1) if 2 <= length <= 4 else 0
            self.check(items, [None] * length, many, [("n", length - 1, length - 1)] if many else [])
        items = [("either", "e", [[number("a", high=5)], [number("b", high=5), some("c")]]), number(high=200)]
        self.check(items, [None] * 3, 6 * 256 * 201, [("n", 0, 200)])

    def test_as_many_as_readings(self):
        for made, found in some_tried():
            for length in range(made.greatest_length + 2):
                self.assertEqual(certain(made, [None] * length).count, count_readings(made, length))

    def test_completions_with_two_readings(self):
        items = [("either", "e", [[number("a", high=9)], [number("b", low=5, high=12)]]), number()]
        self.check(items, [None, 3], 18, [("n", 3, 3)])
        self.check(items, [7, None], 20, [("n", 0, 9)])
        self.check(items, [7, 3], 2, [("n", 3, 3)])
        items = [("either", "e", [[], [some("a")]]), number(low=3), ("either", "f", [[some("b")], [some("c", 2)]])]
        self.check(items, [4, 8, None], 512, [("n", 4, 8)])
        self.check(items, [4, 2, None], 256, [("n", 4, 4)])

    def test_no_completion_that_is_read(self):
        self.check([number(), some("b", "n")], [5, None], 0, [])
        self.check([number()], [None, None], 0, [])
        self.check([number()], [10], 0, [])
        self.check([number(), ("switch", "s", "n", [(12, [])])], [None], 0, [])
        self.check([number(), number("m", high=4)], [None, 5], 0, [])

    def test_numbers_of_two_bytes(self):
        item = number(size=2, low=0x0105, high=0x0310)
        self.check([item], [None, 7], 3, [("n", 0x0107, 0x0307)])
        self.check([item], [None, 4], 2, [("n", 0x0204, 0x0304)])
        self.check([item], [None, 0x11], 2, [("n", 0x0111, 0x0211)])
        self.check([item], [2, None], 256, [("n", 0x0200, 0x02FF)])
        self.check([item], [3, None], 17, [("n", 0x0300, 0x0310)])
        self.check([item], [1, None], 251, [("n", 0x0105, 0x01FF)])
        self.check([item], [None, None], 0x0310 - 0x0105 + 1, [("n", 0x0105, 0x0310)])

    def test_little_numbers_of_two_bytes(self):
        item = number(size=2, order="little", low=0x0105, high=0x0310)
        self.check([item], [7, None], 3, [("n", 0x0107, 0x0307)])
        self.check([item], [4, None], 2, [("n", 0x0204, 0x0304)])
        self.check([item], [None, 2], 256, [("n", 0x0200, 0x02FF)])
        self.check([item], [None, 3], 17, [("n", 0x0300, 0x0310)])
        self.check([item], [None, 1], 251, [("n", 0x0105, 0x01FF)])
        self.check([item], [None, 4], 0, [])
        self.check([item], [None, None], 0x0310 - 0x0105 + 1, [("n", 0x0105, 0x0310)])

    def test_numbers_of_two_bytes_that_are_used(self):
        items = [number(size=2, low=1, high=5), some("b", "n")]
        self.check(items, [None, None, 7, 7], 1, [("n", 2, 2)])
        self.check(items, [0, None, None, 7], 256, [("n", 2, 2)])
        cases = [(3, []), (258, []), (515, [])]
        self.check([number(size=2, high=700), ("switch", "s", "n", cases)], [None, None], 3, [("n", 3, 515)])
        self.check([number(size=2, order="little", high=700), ("switch", "s", "n", cases)], [3, None], 2, [("n", 3, 515)])
        self.check([number(size=2, high=700), ("switch", "s", "n", cases)], [None, 2], 1, [("n", 258, 258)])

    def test_numbers_beside_sums(self):
        # The first byte of the number is told by the sum.
        items = [number(size=2, high=65535), ("check", "c", 16)]
        self.check(items, [None, 0, 5], 16, [("n", 0x0500, 0xF500)])
        items = [number(size=2, order="little", high=2000), ("check", "c", 16)]
        self.check(items, [None, 3, 5], 16, [("n", 0x0302, 0x03F2)])
        self.check(items, [3, None, 5], 1, [("n", 0x0203, 0x0203)])

    def test_bounds_of_several_readings(self):
        # The value is small in the one reading, and great in the other one.
        items = [("either", "e", [[number("a", low=8, high=9)], [number("b", low=1, high=2), some("c")]]), number(high=20), some("z", 1)]
        self.check(items, [None, 3, None], 2 * 256, [("n", 3, 3)])
        self.check(items, [None, None, 7, 5], 2 * 256, [("n", 7, 7)])
        items = [("either", "e", [[], [some("c")]]), number(high=20), ("either", "f", [[some("y")], [some("z", 2)]])]
        self.check(items, [5, 17, None], 512, [("n", 5, 17)])
        self.check(items, [None, 17, None], (21 + 256) * 256, [("n", 0, 20)])

    def test_only_outer_numbers(self):
        items = [number("z", high=3), ("repeat", "r", 1, [number("m", high=3)]), number("a", high=3), ("either", "e", [[number("k")], []])]
        self.check(items, [1, 2, None], 4, [("z", 1, 1), ("a", 0, 3)])

    def test_sure_numbers(self):
        made = shape(number("z", high=3), number("m", low=5, high=5), number("a", high=3), number("x", 2, "big", 0, 255))
        self.assertEqual(sure_numbers(made, [None, None, None, None, None]), [("m", 5)])
        self.assertEqual(sure_numbers(made, [1, None, None, None, 7]), [("z", 1), ("m", 5), ("x", 7)])
        self.assertEqual(sure_numbers(made, [1, None, 4, None, 7]), [])
        self.assertEqual(sure_numbers(made, [1, None]), [])

    def test_great_numbers(self):
        items = [some("b" + str(k), 64) for k in range(12)]
        self.check([("repeat", "r", 5, items)], [None] * 3840, 256 ** 3840, [])
        self.check([("repeat", "r", 5, items)], [None] * 3839 + [7], 256 ** 3839, [])
        either = ("either", "e", [[some("x")], [some("y")], [number("z", high=255)]])
        self.check([("repeat", "r", 16, [either]), number()], [None, 7] * 8 + [None], 3 ** 16 * 256 ** 8 * 10, [("n", 0, 9)])

    def test_longest_files(self):
        made = shape(("repeat", "r", 16, [("repeat", "q", 16, [some("b", 16)])]))
        self.assertEqual(certain(made, [None] * 4096).count, 256 ** 4096)
        self.assertEqual(certain(made, [None, 0] * 2048).count, 256 ** 2048)

    def test_no_damaged_files(self):
        made = shape(number(), some("b", "n"), some("c", 3))
        for damaged in NO_DAMAGED_FILES:
            for ask in (certain, sure_numbers):
                with self.assertRaises(InvalidFile):
                    ask(made, damaged, limit=1)

    def test_answers_are_new(self):
        made = shape(number(), some("b", "n"))
        certain(made, [None, 5]).bounds.clear()
        sure_numbers(made, [None, 5]).clear()
        self.assertEqual(certain(made, [None, 5]).bounds, [("n", 1, 1)])
        self.assertEqual(sure_numbers(made, [None, 5]), [("n", 1)])


class LimitTest(unittest.TestCase):
    def exactly(self, items, damaged, most):
        made = shape(*items)
        for ask in (certain, sure_numbers):
            ask(made, damaged, limit=most)
            for limit in range(1, most):
                self.assertTrue(too_many(lambda limit: ask(made, damaged, limit=limit), limit), (items, damaged, limit))

    def test_place_by_place(self):
        items = [number(), some("b", "n")]
        self.exactly(items, [None], 10)
        self.exactly(items, [None, None, None], 10)
        self.exactly(items, [5, None, None], 1)
        self.exactly(items, [], 1)
        self.exactly([some("b", 64), some("c", 64)], [None] * 128, 1)

    def test_only_bytes_of_completions(self):
        items = [("either", "e", [[number("a", low=1, high=3), some("c")], [number("b", low=3, high=5), some("d")]]), number(high=2), some("x", "n")]
        self.exactly(items, [1, None, None, None], 3)
        self.exactly(items, [1, None, 2, None], 2)
        self.exactly(items, [3, None, 0], 2)
        self.exactly(items, [None, None, 0], 2)
        self.exactly(items, [None, None, None], 3)

    def test_behind_all_bytes(self):
        items = [some("a", 2), number(), some("b", "n")]
        self.exactly(items, [None, None], 1)
        self.exactly(items, [None, None, None], 10)

    def test_before_the_first_byte(self):
        self.exactly([("either", "e", [[some("a")], [some("b")], [some("c")]])], [], 3)
        self.exactly([("either", "e", [[number("a", high=0)], [number("b", high=0)], [number("c", high=0)]])], [9, None, None], 3)

    def test_states_that_are_not_read(self):
        items = [number(), some("b", "n"), some("c", 2), ("switch", "s", "n", [(12, [])])]
        self.exactly(items, [None, None, None, None], 10)
        self.exactly(items, [None], 10)

    def test_states_of_numbers_of_two_bytes(self):
        # Behind the first byte only what can follow is known; the values are told all the same.
        items = [number(size=2, low=0x0105, high=0x0310), some("b")]
        self.exactly(items, [None, None, None], 3)
        self.exactly(items, [2, None, None], 1)

    def test_usual_limit(self):
        made = shape(number(high=16), ("repeat", "r", "n", [number("m"), some("b", "m"), ("text", "t", 0, 5)]), ("check", "c", 16))
        for ask in (certain, sure_numbers):
            self.assertTrue(too_many(lambda limit: ask(made, [None] * 60), 2000))

    def test_tiny_shapes(self):
        for seed, (made, found) in enumerate(some_tried()):
            for damaged in damaged_at_random(list(found), random.Random(seed), 4):
                fits = [one for one in found.values() if matches(damaged[:len(one.file)], one.file)]
                most = max(len({state for one in fits if len(one.file) == place for state in one.states}) for place in range(len(damaged) + 1))
                certain(made, damaged, limit=most)
                if most > 1:
                    self.assertTrue(too_many(lambda limit: certain(made, damaged, limit=limit), most - 1), (made.parts, damaged))


def matches(damaged, file):
    """Whether a file is a completion."""
    return len(damaged) == len(file) and all(one is None or one == byte for one, byte in zip(damaged, file))


def damaged_at_random(files, chance, many):
    """Damaged files made of some of these files."""
    found = []
    for _ in range(many):
        file = chance.choice(files[len(files) // 2:])
        found.append([None if chance.random() < 0.5 else byte for byte in file])
    return found


class TriedTest(unittest.TestCase):
    def test_tiny_shapes(self):
        read = 0
        for seed, (made, found) in enumerate(some_tried()):
            files = [file for file in found if found[file].readings] or list(found)
            for damaged in damaged_at_random(files, random.Random(seed), 5):
                fits = [one for one in found.values() if matches(damaged, one.file)]
                count = 0
                for one in fits:
                    many = len(one.readings)
                    for byte, known in zip(one.file, damaged):
                        many *= MANY[byte] if known is None else 1
                    count += many
                told = certain(made, damaged)
                self.assertEqual(told.count, count, (made.parts, damaged))
                self.assertEqual([row[0] for row in told.bounds], made.outer_numbers() if count else [])
                read += count > 0
                for name, least, greatest in told.bounds:
                    values = [value for one in fits for value in one.values(name)]
                    self.assertEqual(least, min(values), (made.parts, damaged))
                    # Of greater bytes only some were tried.
                    if made.item(name)[5] <= 4:
                        self.assertEqual(greatest, max(values), (made.parts, damaged))
        self.assertGreater(read, 100)

    def test_all_completions(self):
        compared = 0
        for seed in range(150):
            made = shape_at_random(seed)
            data = file_at_random(Machine(made), seed, 8)
            if not data or not is_read(made, data) or not made.outer_numbers():
                continue
            compared += 1
            places = random.Random(seed).sample(range(len(data)), 1)
            damaged = [None if place in places else byte for place, byte in enumerate(data)]
            found = []
            for told in itertools.product(range(256), repeat=len(places)):
                file = list(data)
                for place, byte in zip(places, told):
                    file[place] = byte
                found.extend([dict(one.content) for one in readings(made, file)] if is_read(made, file) else [])
            bounds = [(name, min(one[name] for one in found), max(one[name] for one in found)) for name in made.outer_numbers()]
            told = certain(made, damaged)
            self.assertEqual((told.count, told.bounds), (len(found), bounds), (made.parts, damaged))
        self.assertGreater(compared, 30)


if __name__ == "__main__":
    unittest.main()
