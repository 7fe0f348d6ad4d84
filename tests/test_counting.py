"""Counting readings and files: points 38 to 42."""

import unittest

from brute import by_length, nothing_behind, some_tried
from byteshape.counting import count_files, count_readings
from byteshape.lengths import lengths
from byteshape.shapes import Shape
from made import number, shape, some, too_many

ASKS = (count_readings, count_files)


class CountTest(unittest.TestCase):
    def check(self, items, length, readings, files=None):
        made = shape(*items)
        self.assertEqual(count_readings(made, length), readings, (items, length))
        self.assertEqual(count_files(made, length), readings if files is None else files, (items, length))

    def test_example(self):
        made = Shape((("either", "e", ((("number", "a", 1, "big", 0, 9),), (("number", "b", 1, "big", 5, 12),))),))
        self.assertEqual((count_readings(made, 1), count_files(made, 1)), (18, 13))

    def test_each_kind(self):
        self.check([number(low=3, high=9)], 1, 7)
        self.check([number(size=2, low=255, high=700)], 2, 446)
        self.check([number(size=2, order="little", low=255, high=700)], 2, 446)
        self.check([some("b", 3)], 3, 256 ** 3)
        self.check([some("b", 0)], 0, 1)
        for length, many in ((1, 1), (2, 255), (3, 255 ** 2), (4, 0)):
            self.check([("text", "t", 9, 2)], length, many)
        self.check([some("b", 2), ("check", "c", 7)], 3, 256 ** 2)
        self.check([some("b", 3), ("pad", "p", 8, 5)], 8, 256 ** 3)
        self.check([("repeat", "r", 3, [number(high=4)])], 3, 125)
        self.check([("either", "e", [[some("a", 2)], [number(high=4)], []])], 2, 256 ** 2)
        self.check([("either", "e", [[some("a", 2)], [number(high=4)], []])], 1, 5)
        self.check([("either", "e", [[some("a", 2)], [number(high=4)], []])], 0, 1)

    def test_numbers_that_are_used(self):
        items = [number(high=3), some("b", "n")]
        for length in range(1, 5):
            self.check(items, length, 256 ** (length - 1))
        items = [number(low=1, high=3), ("repeat", "r", "n", [number("m", high=4)]), number("z", high=1)]
        for length in range(3, 6):
            self.check(items, length, 5 ** (length - 2) * 2)
        items = [number(high=9), ("switch", "s", "n", [(2, [some("a", 2)]), (3, [number("x", high=4), some("z")]), (12, [some("y", 2)])])]
        self.check(items, 3, 256 ** 2 + 5 * 256)
        self.check(items, 1, 0)

    def test_ways_to_choose(self):
        # The lengths of the two texts share what is left of the length.
        made = shape(number(low=5, high=9), ("text", "t", 0, 3), ("either", "e", [[some("a")], [("text", "u", 1, 2)]]), ("check", "c", 16))
        for length in range(3, 10):
            many = 0
            for first in range(4):
                if length == first + 4:
                    many += 5 * 255 ** first * 256
                for second in range(3):
                    if length == first + second + 4:
                        many += 5 * 255 ** first * 255 ** second
            self.assertEqual(count_readings(made, length), many)

    def test_great_numbers(self):
        items = [some("b" + str(k), 64) for k in range(12)]
        self.check(items, 768, 256 ** 768)
        self.check([("repeat", "r", 16, items)], 12288, 256 ** 12288)
        either = ("either", "e", [[some("x")], [some("y")], [number("z", 1, "big", 0, 255)]])
        self.check([("repeat", "r", 16, [either])], 16, 3 ** 16 * 256 ** 16, 256 ** 16)

    def test_no_length_of_the_shape(self):
        items = [number(low=2, high=4), some("b", "n")]
        for length in (0, 1, 2, 6, 7, 100, 10 ** 9):
            self.check(items, length, 0)
        self.check([some("b", 5), ("pad", "p", 4, 0)], 7, 0)
        self.check([some("b", 5), ("pad", "p", 4, 0)], 9, 0)

    def test_nothing_is_read(self):
        for length in range(4):
            self.check([number(), some(), ("switch", "s", "n", [(10, [])])], length, 0)

    def test_ranges_that_overlap(self):
        items = [("either", "e", [[number("a", low=2, high=20)], [number("b", low=10, high=30)], [number("c", low=15, high=15)]])]
        self.check(items, 1, 19 + 21 + 1, 29)
        items = [("either", "e", [[number("a", 2, "big", 0, 999)], [number("b", 2, "little", 0, 999)]])]
        # Both orders read some of the files whose bytes are at most 3.
        both = sum(1 for one in range(256) for other in range(256) if one * 256 + other < 1000 and other * 256 + one < 1000)
        self.check(items, 2, 2000, 2000 - both)

    def test_shifts(self):
        items = [("either", "e", [[], [some("a")]]), number(low=3, high=9), ("either", "f", [[some("b")], [some("c", 2)]])]
        self.check(items, 2, 7 * 256)
        self.check(items, 3, 2 * 7 * 256 ** 2, 256 ** 3 - 249 ** 2 * 256)
        self.check(items, 4, 7 * 256 ** 3)

    def test_never_fewer_readings(self):
        for made, found in some_tried():
            pairs = [(count_readings(made, length), count_files(made, length)) for length in lengths(made)]
            self.assertTrue(all(readings >= files >= 1 for readings, files in pairs))
            plain = all(len(one.readings) <= 1 for one in found.values())
            self.assertEqual(all(readings == files for readings, files in pairs), plain, made.parts)


class LimitTest(unittest.TestCase):
    def test_states_of_each_length_by_itself(self):
        made = shape(number(), some("b", "n"))
        self.assertEqual(count_readings(made, 0, limit=1), 0)
        for length in (1, 2, 5, 10, 11, 50):
            self.assertEqual(count_readings(made, length, limit=10), count_readings(made, length))
            for limit in range(1, 10):
                self.assertTrue(too_many(lambda limit: count_readings(made, length, limit=limit), limit))

    def test_longer_files_do_not_count(self):
        made = shape(some("a", 3), number(), some("b", "n"))
        for ask in ASKS:
            for length in range(4):
                self.assertEqual(ask(made, length, limit=1), 0)
            self.assertTrue(too_many(lambda limit: ask(made, 4, limit=limit), 2))

    def test_lists_of_each_length_by_itself(self):
        # Behind one byte: nine lengths that still come, the end, and the empty list.
        made = shape(number(), some("b", "n"))
        self.assertEqual(count_files(made, 0, limit=1), 0)
        for length in (1, 2, 5, 10, 11, 50):
            self.assertEqual(count_files(made, length, limit=11), count_files(made, length))
            for limit in range(1, 11):
                self.assertTrue(too_many(lambda limit: count_files(made, length, limit=limit), limit))

    def test_empty_list(self):
        made = shape(some("b"))
        for length in range(4):
            self.assertEqual(count_files(made, length, limit=1), 256 if length == 1 else 0)
        made = shape(number(high=254), some("b"))
        self.assertEqual(count_files(made, 2, limit=2), 255 * 256)
        self.assertTrue(too_many(lambda limit: count_files(made, 2, limit=limit), 1))
        made = shape(number(high=255), some("b"))
        self.assertEqual(count_files(made, 3, limit=1), 0)

    def test_empty_list_of_shorter_files(self):
        # The byte that is not taken comes first; behind it there is the empty list, whatever follows.
        made = shape(number(low=1, high=255), number("m", high=255), ("either", "e", [[some("a")], [some("b", 2)]]))
        self.assertEqual(count_files(made, 3, limit=2), 255 * 256 ** 2)
        self.assertTrue(too_many(lambda limit: count_files(made, 3, limit=limit), 1))

    def test_lists_of_several_states(self):
        # Behind one byte from 0 to 12: one choice or the other one, or both of them, or none.
        made = shape(("either", "e", [[number("a", low=0, high=9), some("c")], [number("b", low=5, high=12), some("d")]]))
        self.assertEqual(count_files(made, 2, limit=4), 13 * 256)
        self.assertTrue(too_many(lambda limit: count_files(made, 2, limit=limit), 3))
        self.assertEqual(count_readings(made, 2, limit=2), 18 * 256)
        self.assertTrue(too_many(lambda limit: count_readings(made, 2, limit=limit), 1))

    def test_states_count_though_nothing_is_read(self):
        made = shape(number(), some("b", "n"), some("a", 2), ("switch", "s", "n", [(10, [])]))
        self.assertEqual(count_readings(made, 5, limit=10), 0)
        self.assertTrue(too_many(lambda limit: count_readings(made, 5, limit=limit), 9))
        self.assertEqual(count_files(made, 5, limit=11), 0)
        self.assertTrue(too_many(lambda limit: count_files(made, 5, limit=limit), 10))

    def test_usual_limit(self):
        made = shape(number(high=16), ("repeat", "r", "n", [number("m"), some("b", "m"), ("text", "t", 0, 5)]), ("check", "c", 16))
        for ask in ASKS:
            self.assertTrue(too_many(lambda limit: ask(made, 60), 2000))


class TriedTest(unittest.TestCase):
    def test_readings(self):
        for made, found in some_tried():
            most = 0
            for length, row in enumerate(by_length(found)):
                most = max(most, len({state for one in row for state in one.states}))
                expected = sum(one.many * len(one.readings) for one in row)
                self.assertEqual(count_readings(made, length, limit=most), expected, (made.parts, length))
                if most > 1:
                    self.assertTrue(too_many(lambda limit: count_readings(made, length, limit=limit), most - 1))

    def test_files(self):
        for made, found in some_tried():
            most = 0
            lost = min([len(file) for file in nothing_behind(found)])
            for length, row in enumerate(by_length(found)):
                lists = {one.states for one in row} | ({()} if length >= lost else set())
                most = max(most, len(lists))
                expected = sum(one.many for one in row if one.readings)
                self.assertEqual(count_files(made, length, limit=most), expected, (made.parts, length))
                if most > 1:
                    self.assertTrue(too_many(lambda limit: count_files(made, length, limit=limit), most - 1))


if __name__ == "__main__":
    unittest.main()
