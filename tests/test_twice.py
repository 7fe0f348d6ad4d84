"""Two readings of one file: points 53 to 57, and the limit of point 62."""

import unittest

from brute import some_tried
from byteshape.counting import count_files, count_readings
from byteshape.errors import InvalidQuestion, UnknownName
from byteshape.lengths import lengths
from byteshape.reading import readings
from byteshape.shapes import Shape
from byteshape.twice import TwoValues, TwoWays, is_plain, two_values, two_ways
from made import number, shape, some, too_many

GREAT = 10 ** 6


def shift(name, *lengths_of):
    """An either of bytes of these lengths."""
    return ("either", name, [[some(name + str(many), many)] if many else [] for many in lengths_of])


class ClassTest(unittest.TestCase):
    def test_two_ways(self):
        file, first, second = [1, 2], [0], [1, 0]
        found = TwoWays(file, first, second)
        for one in (file, first, second):
            one.append(9)
        self.assertEqual((found.file, found.first, found.second), ([1, 2], (0,), (1, 0)))
        found = TwoWays((1, 2), (0,), ())
        self.assertEqual((found.file, found.first, found.second), ([1, 2], (0,), ()))

    def test_two_values(self):
        file = [1, 2]
        found = TwoValues(file, 3, 5)
        file.append(9)
        self.assertEqual((found.file, found.first, found.second), ([1, 2], 3, 5))


class TwoWaysTest(unittest.TestCase):
    def check(self, items, file, first=None, second=None):
        made = shape(*items)
        found = two_ways(made)
        self.assertIs(is_plain(made), file is None)
        if file is None:
            self.assertIsNone(found, items)
            return
        self.assertEqual((found.file, found.first, found.second), (file, first, second), items)

    def test_example(self):
        made = Shape((("either", "e", ((("number", "a", 1, "big", 0, 9),), (("number", "b", 1, "big", 5, 12),))),))
        found = two_ways(made)
        self.assertIs(type(found), TwoWays)
        self.assertEqual((found.file, found.first, found.second), ([5], (0,), (1,)))
        self.assertIs(is_plain(made), False)

    def test_shapes_without_an_either(self):
        self.check([some("b", 0)], None)
        self.check([number(), some("b", "n"), ("text", "t", 0, 3), ("check", "c", 7), ("pad", "p", 8, 0)], None)
        self.check([number(), ("repeat", "r", "n", [("switch", "s", "n", [(0, []), (2, [some("a")])]), some("b")])], None)

    def test_choices_that_share_no_file(self):
        self.check([("either", "e", [[number("a", high=9)], [number("b", low=10, high=12)]])], None)
        self.check([("either", "e", [[some("a")], [some("b", 2)], []])], None)
        self.check([("either", "e", [[("text", "t", 0, 3)], [number("a", low=1, high=9)]])], None)

    def test_choices_that_share_some_files(self):
        self.check([("either", "e", [[number("a", high=9)], [number("b", low=9, high=12)]])], [9], (0,), (1,))
        self.check([("either", "e", [[number("a", low=1)], [number("b", low=2), some("c")], [number("d", low=3)]])], [3], (0,), (2,))
        self.check([("either", "e", [[("text", "t", 7, 3)], [some("b", 3)]])], [0, 0, 7], (0,), (1,))
        self.check([("either", "e", [[number("a", 2, "big", 0, 300)], [number("b", 2, "little", 256, 400)]])], [0, 1], (0,), (1,))

    def test_choices_that_share_all_files(self):
        self.check([("either", "e", [[some("a", 2)], [some("b", 2)]])], [0, 0], (0,), (1,))
        self.check([some("x"), ("either", "e", [[number("a", low=3)], [number("b", low=3)]]), ("check", "c", 5)], [0, 3, 3], (0,), (1,))

    def test_files_that_shift(self):
        self.check([shift("e", 0, 1), shift("f", 1, 2)], [0, 0], (0, 1), (1, 0))
        self.check([shift("e", 0, 1), number(low=3), shift("f", 1, 2)], [3, 3, 0], (0, 1), (1, 0))
        self.check([shift("e", 0, 1), shift("f", 1, 3)], None)
        self.check([("repeat", "r", 3, [shift("e", 1, 2)])], [0] * 4, (0, 0, 1), (0, 1, 0))

    def test_first_file_by_length(self):
        choices = [[number("a", low=0, high=0), some("a1", 2)], [number("b", low=0, high=0), some("b1", 2)],
                   [number("c", low=9), number("c1", low=8)], [number("d", low=9), number("d1", low=8)]]
        self.check([("either", "e", choices)], [9, 8], (2,), (3,))

    def test_first_file_byte_by_byte(self):
        choices = [[number("a", low=4), number("a1", low=1)], [number("b", low=3), number("b1", low=7)],
                   [number("c", low=3, high=4), number("c1", low=6, high=9)]]
        self.check([("either", "e", choices)], [3, 7], (1,), (2,))

    def test_first_two_paths_of_three(self):
        self.check([("either", "e", [[some("a")], [some("b")], [some("c")]])], [0], (0,), (1,))
        self.check([shift("e", 0, 1, 2), shift("f", 2, 1, 0, 3), some("x", 0)], [0], (0, 1), (1, 2))
        inner = ("either", "f", [[some("a")], [some("b")]])
        self.check([("either", "e", [[some("c", 2)], [inner], [some("d")]])], [0], (1, 0), (1, 1))
        self.check([("either", "e", [[some("c")], [inner], [some("d")]])], [0], (0,), (1, 0))

    def test_parts_that_part_and_come_together(self):
        # The runs are in the same state again, but they have parted.
        self.check([("either", "e", [[number("a", high=9)], [number("b", low=9, high=12)]]), some("x", 3)], [9, 0, 0, 0], (0,), (1,))

    def test_runs_that_part_and_are_not_read(self):
        items = [number(), ("either", "e", [[some("a")], [some("b")]]), ("switch", "s", "n", [(12, [])])]
        self.check(items, None)
        items = [number("m", high=3), ("either", "e", [[some("a"), ("check", "c", 5)], [some("b", 2), number("z", low=7, high=7)]])]
        self.check(items, None)

    def test_eithers_within_blocks(self):
        items = [number(high=3), ("repeat", "r", "n", [("either", "e", [[number("a", low=3)], [number("b", low=8, high=20)]])])]
        self.check(items, [1, 8], (0,), (1,))
        items = [number(low=2, high=3), ("switch", "s", "n", [(3, [("either", "e", [[some("a")], [some("b")]])]), (2, [some("c")])])]
        self.check(items, [3, 0], (0,), (1,))

    def test_checks_and_pads(self):
        items = [("either", "e", [[some("a", 2), ("check", "c", 5)], [number("m", low=1), some("x"), number("z", low=4, high=6)]])]
        self.check(items, [1, 3, 4], (0,), (1,))
        items = [("either", "e", [[some("a", 3), ("pad", "p", 4, 7)], [some("b", 4)]])]
        self.check(items, [0, 0, 0, 7], (0,), (1,))

    def test_many_ways(self):
        # There are 3 ** 16 readings of this file.
        either = ("either", "e", [[number("a", high=5)], [number("b", high=5)], [number("c", high=5)]])
        self.check([("repeat", "r", 16, [either])], [0] * 16, (0,) * 16, (0,) * 15 + (1,))

    def test_answers_are_new(self):
        made = shape(shift("e", 0, 1), shift("f", 1, 2))
        two_ways(made).file.append(5)
        self.assertEqual(two_ways(made).file, [0, 0])

    def test_tiny_shapes(self):
        twice = 0
        for made, found in some_tried():
            expected = [one for one in found.values() if len(one.readings) > 1][:1]
            self.assertIs(is_plain(made), not expected)
            told = two_ways(made)
            if not expected:
                self.assertIsNone(told, made.parts)
                continue
            twice += 1
            self.assertEqual((told.file, told.first, told.second),
                             (expected[0].file, expected[0].readings[0][0], expected[0].readings[1][0]))
        self.assertGreater(twice, 12)

    def test_counts(self):
        for made, found in some_tried():
            same = all(count_readings(made, length) == count_files(made, length) for length in lengths(made))
            self.assertEqual(same, is_plain(made))


class TwoValuesTest(unittest.TestCase):
    def check(self, items, name, file, first=None, second=None):
        found = two_values(shape(*items), name)
        if file is None:
            self.assertIsNone(found, items)
            return
        self.assertEqual((found.file, found.first, found.second), (file, first, second), items)

    def test_example(self):
        either = ("either", "e", ((), (("number", "a", 1, "big", 0, 9),)))
        rest = ("either", "f", ((("bytes", "b", 1),), (("bytes", "c", 2),)))
        found = two_values(Shape((either, ("number", "n", 1, "big", 0, 9), rest)), "n")
        self.assertIs(type(found), TwoValues)
        self.assertEqual((found.file, found.first, found.second), ([0, 1, 0], 0, 1))

    def test_values_in_ascending_order(self):
        # Both readings of the first file, in whatever order their paths stand.
        self.check([shift("e", 0, 1), number(low=3), shift("f", 1, 2)], "n", [3, 4, 0], 3, 4)
        self.check([shift("e", 1, 0), number(low=3), shift("f", 1, 2)], "n", [3, 4, 0], 3, 4)
        items = [("either", "e", [[], [number("a", low=5, high=7)]]), number(low=2, high=5), shift("f", 1, 2)]
        self.check(items, "n", [5, 2, 0], 2, 5)

    def test_two_least_of_three_values(self):
        # Only files of six bytes can be read twice, and then the number is the first, the third and the fourth byte.
        before = [[], [number("a", low=7, high=7), some("a1")], [number("b", low=7, high=7), some("b1"), number("b2", low=5, high=5)]]
        behind = [[some("c"), number("c1", low=5, high=5), number("c2", low=4, high=4), some("c3", 2)],
                  [number("d", low=4, high=4), some("d1", 2)], [some("f1", 2)]]
        items = [("either", "e", before), number(low=3), ("either", "f", behind)]
        self.check(items, "n", [7, 0, 5, 4, 0, 0], 4, 5)
        values = [dict(reading.content)["n"] for reading in readings(shape(*items), [7, 0, 5, 4, 0, 0])]
        self.assertEqual(values, [7, 5, 4])

    def test_no_two_values(self):
        self.check([number(), some("b", "n")], "n", None)
        # Two readings of a file, but the number stands ahead of where they part.
        self.check([number(), ("either", "e", [[some("a")], [some("b")]])], "n", None)
        # Or at the same place behind it.
        self.check([("either", "e", [[some("a")], [some("b")]]), number(), number("m", 2, "little", 0, 700)], "n", None)
        self.check([("either", "e", [[some("a")], [some("b")]]), number(), number("m", 2, "little", 0, 700)], "m", None)
        # Or it has one value only.
        self.check([shift("e", 0, 1), number(low=3, high=3), shift("f", 1, 2)], "n", None)
        self.check([shift("e", 0, 1), number(size=2, low=300, high=300), shift("f", 1, 2)], "n", None)

    def test_plain_shapes_have_no_two_values(self):
        plain = 0
        for made, found in some_tried():
            if is_plain(made):
                for name in made.outer_numbers():
                    plain += 1
                    self.assertIsNone(two_values(made, name))
        self.assertGreater(plain, 20)

    def test_numbers_of_two_bytes(self):
        for order in ("big", "little"):
            items = [shift("e", 0, 1), number(size=2, order=order, high=65535), shift("f", 1, 2)]
            self.check(items, "n", [0, 0, 1, 0], 0, 1 if order == "big" else 256)
            items = [shift("e", 0, 2), number(size=2, order=order, high=65535), shift("f", 1, 3)]
            self.check(items, "n", [0, 0, 0, 1, 0], 0, 1 if order == "big" else 256)
        items = [shift("e", 0, 1), number(size=2, low=0x0102, high=0x0305), shift("f", 1, 2)]
        self.check(items, "n", [1, 2, 0, 0], 0x0102, 0x0200)
        # All bytes are the same, and so are both values, whatever their order.
        items = [("either", "e", [[], [number("a", low=7, high=7)]]), number(size=2, low=0x0707, high=0x0707), shift("f", 1, 2)]
        self.check(items, "n", None)

    def test_same_value_at_two_places(self):
        # The only file with two readings has the same two bytes twice, so both values are the same.
        rows = [(1, 240, 0, 1000), (3, 1, 100, 770), (1, 16, 0x0105, 0x0110), (1, 5, 0x0105, 0x0110), (0, 255, 0, 300), (1, 0, 255, 256)]
        for first, second, low, high in rows:
            for order in ("big", "little"):
                told = [first, second] if order == "big" else [second, first]
                before, behind = [[number(name + str(byte_at), low=byte, high=byte) for byte_at, byte in enumerate(told)] for name in "ab"]
                items = [("either", "e", [[], before]), number(size=2, order=order, low=low, high=high), ("either", "f", [behind, []])]
                found = two_ways(shape(*items))
                self.assertEqual((found.file, found.first, found.second), (told + told, (0, 0), (1, 1)))
                self.check(items, "n", None)

    def test_greatest_value_alone(self):
        # The bytes of the smaller weight are 0 in both values.
        before = [number("a", high=0), number("b", high=0)]
        behind = [number("c", low=1, high=1), number("d", high=0)]
        self.check([("either", "e", [[], before]), number(size=2, high=256), ("either", "f", [behind, []])], "n", [0, 0, 1, 0], 0, 256)

    def test_numbers_that_are_used(self):
        items = [shift("e", 0, 1), number(high=2), some("b", "n"), some("c")]
        self.check(items, "n", [1, 0, 0], 0, 1)
        items = [shift("e", 0, 1), number(size=2, order="little", high=2), some("b", "n"), some("c")]
        self.check(items, "n", [1, 0, 0, 0], 0, 1)

    def test_other_numbers(self):
        items = [number("x", high=1), shift("e", 0, 1), number(high=3), shift("f", 1, 2), number("y", low=5)]
        self.check(items, "n", [0, 0, 1, 0, 5], 0, 1)
        self.check(items, "x", None)
        self.check(items, "y", None)

    def test_unknown_names(self):
        made = shape(shift("e", 0, 1), number(), shift("f", 1, 2))
        for name in ("x", "", "N", "no name"):
            with self.assertRaises(UnknownName) as caught:
                two_values(made, name, limit=1)
            self.assertEqual(caught.exception.name, name)

    def test_no_outer_numbers(self):
        made = shape(number(), ("either", "e", [[number("a")], [("repeat", "r", 2, [number("b")])]]), some("c"), ("text", "t", 0, 3),
                     ("switch", "s", "n", [(1, [number("d")])]), ("check", "k", 7), ("pad", "p", 2, 0))
        for name in ("a", "b", "d", "e", "r", "c", "t", "s", "k", "p"):
            with self.assertRaises(InvalidQuestion):
                two_values(made, name, limit=1)

    def test_answers_are_new(self):
        made = shape(shift("e", 0, 1), number(), shift("f", 1, 2))
        two_values(made, "n").file.append(5)
        self.assertEqual(two_values(made, "n").file, [0, 1, 0])

    def test_tiny_shapes(self):
        many = 0
        for made, found in some_tried():
            for name in made.outer_numbers():
                told = two_values(made, name)
                expected = [one for one in found.values() if len(one.values(name)) > 1][:1]
                if not expected:
                    self.assertIsNone(told, (made.parts, name))
                    continue
                many += 1
                self.assertEqual([told.file, told.first, told.second], [expected[0].file] + expected[0].values(name)[:2])
        self.assertGreater(many, 2)


class LimitTest(unittest.TestCase):
    def test_too_small(self):
        made = shape(shift("e", 0, 1), number(), shift("f", 1, 2), some("b", "n"))
        for ask in (two_ways, is_plain):
            self.assertTrue(too_many(lambda limit: ask(made, limit=limit), 1))
            self.assertTrue(too_many(lambda limit: ask(made, limit=limit), 3))
        self.assertTrue(too_many(lambda limit: two_values(made, "n", limit=limit), 1))
        self.assertTrue(too_many(lambda limit: two_values(made, "n", limit=limit), 3))

    def test_too_small_without_an_either(self):
        made = shape(number(), some("b", "n"))
        for ask in (two_ways, is_plain, lambda made, limit: two_values(made, "n", limit=limit)):
            for limit in range(1, 10):
                self.assertTrue(too_many(lambda limit: ask(made, limit=limit), limit))

    def test_great_enough(self):
        made = shape(shift("e", 0, 1), number(), shift("f", 1, 2), some("b", "n"))
        found = two_ways(made, limit=GREAT)
        self.assertEqual((found.file, found.first, found.second), ([0, 0, 0], (0, 1), (1, 0)))
        self.assertFalse(is_plain(made, limit=GREAT))
        found = two_values(made, "n", limit=GREAT)
        self.assertEqual((found.file, found.first, found.second), ([1, 0, 0], 0, 1))

    def test_usual_limit(self):
        blocks = [some("b" + str(k), 64) for k in range(12)]
        made = shape(number(), ("repeat", "r", 4, blocks))
        for ask in (lambda: two_ways(made), lambda: is_plain(made), lambda: two_values(made, "n")):
            self.assertTrue(too_many(lambda limit: ask(), 2000))
        self.assertTrue(is_plain(made, limit=GREAT))
        self.assertIsNone(two_values(made, "n", limit=GREAT))


if __name__ == "__main__":
    unittest.main()
