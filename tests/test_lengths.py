"""Lengths: points 36 and 37."""

import unittest

from brute import by_length, some_tried
from byteshape.lengths import lengths, longest, shortest
from byteshape.shapes import Shape
from made import number, shape, some, too_many


class LengthsTest(unittest.TestCase):
    def check(self, items, expected):
        made = shape(*items)
        self.assertEqual(lengths(made), expected, items)
        self.assertEqual(shortest(made), expected[0] if expected else None)
        self.assertEqual(longest(made), expected[-1] if expected else None)

    def test_example(self):
        self.assertEqual(lengths(Shape((("number", "n", 1, "big", 2, 4), ("bytes", "b", "n")))), [3, 4, 5])

    def test_each_kind(self):
        self.check([number()], [1])
        self.check([number(size=2, high=700)], [2])
        self.check([some("b", 5)], [5])
        self.check([some("b", 0)], [0])
        self.check([("text", "t", 0, 3)], [1, 2, 3, 4])
        self.check([("text", "t", 7, 0)], [1])
        self.check([("check", "c", 5)], [1])
        self.check([("pad", "p", 4, 0)], [0])
        self.check([("either", "e", [[some("a", 2)], [some("b", 7)], [some("c", 4)]])], [2, 4, 7])
        self.check([("either", "e", [[some("a", 2)], []])], [0, 2])

    def test_counts(self):
        self.check([("repeat", "r", 3, [some("b", 2)])], [6])
        self.check([("repeat", "r", 0, [some("b", 2)])], [0])
        self.check([number(high=3), ("repeat", "r", "n", [some("b", 2)])], [1, 3, 5, 7])
        self.check([number(low=2, high=3), ("repeat", "r", "n", [("text", "t", 0, 1)])], [3, 4, 5, 6, 7])
        self.check([("repeat", "r", 2, [number(low=1, high=2), some("b", "n")])], [4, 5, 6])
        self.check([("repeat", "r", 16, [("repeat", "q", 16, [some("b", 64)])])], [16384])

    def test_pads(self):
        self.check([("text", "t", 0, 5), ("pad", "p", 4, 9)], [4, 8])
        self.check([some("b", 5), ("pad", "p", 8, 9), some("c")], [9])
        self.check([number(high=3), some("b", "n"), ("pad", "p", 2, 0), ("pad", "q", 4, 0)], [4])

    def test_switches(self):
        cases = [(0, []), (2, [some("a", 3)]), (3, [some("b", 3)]), (300, [some("c", 9)])]
        self.check([number(high=3), ("switch", "s", "n", cases)], [1, 4])
        self.check([number(high=3), some("d", "n"), ("switch", "s", "n", cases)], [1, 6, 7])
        self.check([number(size=2, high=300), ("switch", "s", "n", cases)], [2, 5, 11])

    def test_lengths_of_several_ways(self):
        either = ("either", "e", [[some("a")], [some("b", 2)], [("text", "t", 0, 2)]])
        self.check([either, ("check", "c", 3)], [2, 3, 4])

    def test_nothing_is_read(self):
        self.check([number(), ("switch", "s", "n", [(10, [])])], [])
        self.check([number(), some("b", "n"), ("switch", "s", "n", [(10, [some("c")]), (300, [])])], [])

    def test_answers_are_new(self):
        made = shape(number(low=2, high=4), some("b", "n"))
        lengths(made).clear()
        self.assertEqual(lengths(made), [3, 4, 5])

    def test_within_the_bounds_of_the_shape(self):
        for made, found in some_tried():
            for length in lengths(made):
                self.assertTrue(made.least_length <= length <= made.greatest_length)


class LimitTest(unittest.TestCase):
    def test_states_of_each_length_by_itself(self):
        # Behind one byte: nine lengths that still come, and the end.
        made = shape(number(), some("b", "n"))
        for ask in (lengths, shortest, longest):
            self.assertIsNotNone(ask(made, limit=10))
            for limit in range(1, 10):
                self.assertTrue(too_many(lambda limit: ask(made, limit=limit), limit))

    def test_one_state(self):
        self.assertEqual(lengths(shape(some("b", 64), some("c", 64)), limit=1), [128])
        self.assertEqual(lengths(shape(some("b", 0)), limit=1), [0])

    def test_all_lengths_are_looked_at(self):
        made = shape(("either", "e", [[], [number(), some("b", "n")]]))
        for ask in (lengths, shortest, longest):
            self.assertIsNotNone(ask(made, limit=10))
            self.assertTrue(too_many(lambda limit: ask(made, limit=limit), 9))

    def test_states_that_are_not_read(self):
        made = shape(number(), some("b", "n"), some("a", 2), ("switch", "s", "n", [(10, [])]))
        self.assertEqual(lengths(made, limit=10), [])
        for ask in (lengths, shortest, longest):
            self.assertTrue(too_many(lambda limit: ask(made, limit=limit), 9))

    def test_states_before_the_first_byte(self):
        made = shape(("either", "e", [[some("a")], [some("b")], [some("c")]]))
        self.assertEqual(lengths(made, limit=3), [1])
        self.assertTrue(too_many(lambda limit: lengths(made, limit=limit), 2))

    def test_usual_limit(self):
        blocks = [some("b" + str(k), 64) for k in range(12)]
        made = shape(number(high=16), ("repeat", "r", "n", [number("m"), some("b", "m"), ("text", "t", 0, 5)]), ("check", "c", 16))
        for ask in (lengths, shortest, longest):
            self.assertTrue(too_many(lambda limit: ask(made), 2000))
        # There are more states than the limit here, but no length has more than one of them.
        self.assertEqual(lengths(shape(("repeat", "r", 4, blocks))), [3072])


class TriedTest(unittest.TestCase):
    def test_tiny_shapes(self):
        for made, found in some_tried():
            expected = sorted({len(file) for file, one in found.items() if one.readings})
            states = [{state for one in row for state in one.states} for row in by_length(found)]
            most = max(len(row) for row in states)
            self.assertEqual(lengths(made, limit=most), expected, made.parts)
            self.assertEqual(shortest(made, limit=most), min(expected, default=None))
            self.assertEqual(longest(made, limit=most), max(expected, default=None))
            if most > 1:
                self.assertTrue(too_many(lambda limit: lengths(made, limit=limit), most - 1), made.parts)


if __name__ == "__main__":
    unittest.main()
