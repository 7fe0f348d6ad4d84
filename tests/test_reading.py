"""Readings: points 23 to 28."""

import copy
import unittest

from byteshape.errors import InvalidFile, NotRead, TooMany
from byteshape.machine import Machine
from byteshape.reading import Reading, is_read, paths, read, readings, values_by
from made import number, shape, some
from naive import Ways
from shapes_at_random import file_at_random, shape_at_random

NO_FILES = ([0] * 4097, [-1], [256], [0, True], [False], ["0"], [None], [1.0], [[0]], [0, 1, 2, 256])


def ambiguous(rounds):
    """Each byte can be read in two ways."""
    return shape(("repeat", "r", rounds, [("either", "e", [[some("a")], [some("b")]])]))


class ContentTest(unittest.TestCase):
    def content(self, items, data):
        return read(shape(*items), data).content

    def test_example(self):
        made = shape(number(high=4), some("b", "n"), ("check", "c", 16))
        self.assertEqual(read(made, [2, 5, 6, 13]).content, [("n", 2), ("b", [5, 6])])
        with self.assertRaises(NotRead):
            read(made, [2, 5, 6])

    def test_numbers(self):
        items = [number("a", 2, "big", 0, 65535), number("b", 2, "little", 0, 65535), number("c", 1, "little", 0, 255)]
        self.assertEqual(self.content(items, [1, 2, 1, 2, 200]), [("a", 258), ("b", 513), ("c", 200)])

    def test_bytes_and_texts(self):
        items = [some("a", 0), some("b", 2), ("text", "t", 5, 3), ("text", "u", 5, 0), ("text", "v", 5, 3)]
        self.assertEqual(self.content(items, [0, 255, 5, 5, 1, 2, 3, 5]),
                         [("a", []), ("b", [0, 255]), ("t", []), ("u", []), ("v", [1, 2, 3])])

    def test_repeats(self):
        items = [number(), ("repeat", "r", "n", [some("a"), ("repeat", "q", 2, [("text", "t", 0, 1)])]), ("repeat", "p", 0, [some("z")])]
        self.assertEqual(self.content(items, [0]), [("n", 0), ("r", []), ("p", [])])
        self.assertEqual(self.content(items, [2, 7, 0, 1, 0, 8, 0, 0]), [
            ("n", 2), ("r", [[("a", [7]), ("q", [[("t", [])], [("t", [1])]])], [("a", [8]), ("q", [[("t", [])], [("t", [])]])]]), ("p", [])])

    def test_choices(self):
        items = [("either", "e", [[], [number(), some("a")], [some("b", 3)]])]
        self.assertEqual(self.content(items, []), [("e", (0, []))])
        self.assertEqual(self.content(items, [5, 6]), [("e", (1, [("n", 5), ("a", [6])]))])
        self.assertEqual(self.content(items, [5, 6, 7]), [("e", (2, [("b", [5, 6, 7])]))])

    def test_switches(self):
        items = [number(), ("switch", "s", "n", [(4, [some("a")]), (2, []), (0, [("either", "e", [[some("b", 2)], [some("c")]])])])]
        self.assertEqual(self.content(items, [4, 1]), [("n", 4), ("s", [("a", [1])])])
        self.assertEqual(self.content(items, [2]), [("n", 2), ("s", [])])
        self.assertEqual(self.content(items, [0, 9]), [("n", 0), ("s", [("e", (1, [("c", [9])]))])])

    def test_checks_and_pads_have_no_value(self):
        items = [some("a"), ("pad", "p", 4, 7), ("repeat", "r", 2, [("check", "c", 16)])]
        self.assertEqual(self.content(items, [5, 7, 7, 7, 10, 4]), [("a", [5]), ("r", [[], []])])

    def test_inner_numbers_hide_nothing(self):
        items = [number(), ("repeat", "r", 2, [number("m"), some("a", "m"), some("b", "n")])]
        self.assertEqual(self.content(items, [1, 2, 3, 4, 5, 0, 6]), [
            ("n", 1), ("r", [[("m", 2), ("a", [3, 4]), ("b", [5])], [("m", 0), ("a", []), ("b", [6])]])])

    def test_kinds_of_values(self):
        reading = read(shape(("either", "e", [[some("a")], [some("b", 2)]])), [1])
        self.assertIs(type(reading), Reading)
        self.assertIs(type(reading.path), tuple)
        self.assertIs(type(reading.content), list)
        self.assertIs(type(reading.content[0]), tuple)
        self.assertIs(type(reading.content[0][1]), tuple)
        self.assertIs(type(reading.content[0][1][1]), list)


class PathsTest(unittest.TestCase):
    def test_no_choices(self):
        self.assertEqual(paths(shape(some()), [7]), [()])
        self.assertEqual(paths(shape(some(length=0)), []), [()])

    def test_several_readings(self):
        inner = ("either", "f", [[some("c", 2)], [some("d")]])
        made = shape(("either", "e", [[some("a", 2)], [inner, ("either", "g", [[], [some("x")]])], [some("b", 2)]]))
        self.assertEqual(paths(made, [1, 2]), [(0,), (1, 0, 0), (1, 1, 1), (2,)])
        self.assertEqual(paths(made, [1]), [(1, 1, 0)])
        found = readings(made, [1, 2])
        self.assertEqual([one.path for one in found], [(0,), (1, 0, 0), (1, 1, 1), (2,)])
        self.assertEqual([one.content for one in found], [
            [("e", (0, [("a", [1, 2])]))],
            [("e", (1, [("f", (0, [("c", [1, 2])])), ("g", (0, []))]))],
            [("e", (1, [("f", (1, [("d", [1])])), ("g", (1, [("x", [2])]))]))],
            [("e", (2, [("b", [1, 2])]))]])
        self.assertEqual(read(made, [1, 2]).path, (0,))

    def test_paths_of_rounds(self):
        wanted = [(a, b, c) for a in (0, 1) for b in (0, 1) for c in (0, 1)]
        self.assertEqual(paths(ambiguous(3), [0, 0, 0]), wanted)
        self.assertEqual([one.path for one in readings(ambiguous(3), [0, 0, 0])], wanted)
        self.assertEqual(read(ambiguous(3), [0, 0, 0]).path, (0, 0, 0))

    def test_first_way_does_not_read(self):
        made = shape(("either", "e", [[some("a", 2), number(high=0)], [some("b", 2), number("m", low=1)]]))
        self.assertEqual(paths(made, [5, 5, 1]), [(1,)])
        self.assertEqual(read(made, [5, 5, 1]).content, [("e", (1, [("b", [5, 5]), ("m", 1)]))])

    def test_long_file(self):
        made = shape(*[("repeat", "r", 16, [("repeat", "q", 16, [("repeat", "p", 16, [some()])])])])
        data = [number_of % 256 for number_of in range(4096)]
        content = read(made, data).content
        self.assertEqual(content[0][1][1][0][1][2], [("p", [[("b", [256 % 256 + 32 + k])] for k in range(16)])])

    def test_long_paths(self):
        block = ("either", "e", [[some("a")], [number(high=0)]])
        made = shape(("repeat", "r", 16, [("repeat", "q", 16, [block])]))
        data = [0, 0, 0] + [1] * 253
        found = paths(made, data)
        self.assertEqual(found, [(a, b, c) + (0,) * 253 for a in (0, 1) for b in (0, 1) for c in (0, 1)])

    def test_no_lists_are_shared(self):
        made = ambiguous(2)
        paths(made, [0, 0]).clear()
        self.assertEqual(len(paths(made, [0, 0])), 4)
        found = readings(made, [0, 0])
        found[0].content[0][1][0].clear()
        found[0].content.clear()
        self.assertEqual(found[1].content, [("r", [[("e", (0, [("a", [0])]))], [("e", (1, [("b", [0])]))]])])
        self.assertEqual(len(readings(made, [0, 0])[0].content), 1)

    def test_arguments_stay(self):
        data = [0, 0]
        made = ambiguous(2)
        for ask in (paths, readings, read, is_read):
            ask(made, data)
        values_by(made, data, (0, 0))
        self.assertEqual(data, [0, 0])


class ReadingTest(unittest.TestCase):
    def test_copies(self):
        content = [("r", [[("b", [1, 2])]]), ("e", (1, [("a", [3])]))]
        before = copy.deepcopy(content)
        path = [0, 1]
        reading = Reading(path, content)
        self.assertEqual(reading.path, (0, 1))
        self.assertIs(type(reading.path), tuple)
        self.assertEqual(reading.content, before)
        content[0][1][0][0][1].append(7)
        content[1][1][1][0][1].clear()
        content[1][1][1].append(("x", 1))
        content.pop()
        path.append(5)
        self.assertEqual(reading.content, before)
        self.assertEqual(reading.path, (0, 1))


class NotReadTest(unittest.TestCase):
    def place(self, made, data):
        """The place that all functions tell for a file that is not read."""
        places = []
        for ask in (paths, readings, read):
            with self.assertRaises(NotRead, msg=data) as caught:
                ask(made, data)
            places.append(caught.exception.place)
        self.assertIs(is_read(made, data), False)
        self.assertEqual(len(set(places)), 1)
        return places[0]

    def test_cut_lengthened_and_changed(self):
        made = shape(number(low=2, high=4), some("b", "n"), ("text", "t", 0, 3), number("m", 2, "big", 256, 511), ("check", "c", 7))
        data = [2, 9, 9, 5, 0, 1, 77]
        data.append(sum(data) % 7)
        self.assertIs(is_read(made, data), True)
        for many in range(len(data)):
            self.assertEqual(self.place(made, data[:many]), many)
        self.assertEqual(self.place(made, data + [0]), len(data))
        self.assertEqual(self.place(made, data + [0, 0, 0]), len(data))
        self.assertEqual(self.place(made, [5] + data[1:]), 0)
        self.assertEqual(self.place(made, [1] + data[1:]), 0)
        self.assertEqual(self.place(made, data[:5] + [2] + data[6:]), 5)
        self.assertEqual(self.place(made, data[:-1] + [7]), 7)
        self.assertEqual(self.place(made, data[:6] + [78] + data[7:]), 7)
        self.assertEqual(self.place(made, [3] + data[1:]), 7)
        self.assertEqual(self.place(made, [4] + data[1:]), 8)
        self.assertEqual(self.place(made, []), 0)

    def test_text_without_a_stop(self):
        made = shape(("text", "t", 0, 3), some())
        self.assertEqual(self.place(made, [1, 1, 1, 1]), 3)
        self.assertEqual(self.place(made, [1, 1, 1]), 3)

    def test_pad(self):
        made = shape(some(), ("pad", "p", 4, 0), some("a", 4))
        self.assertEqual(self.place(made, [1, 0, 1, 0]), 2)

    def test_greatest_place_of_all_ways(self):
        made = shape(("either", "e", [[number("a"), number("b"), number("c")], [number("d"), number("f", high=3)]]))
        self.assertEqual(self.place(made, [1, 2, 10]), 2)
        self.assertEqual(self.place(made, [1, 9]), 2)
        self.assertEqual(self.place(made, [1, 10]), 1)

    def test_tag_without_a_case(self):
        made = shape(number(), ("switch", "s", "n", [(1, [some()])]))
        self.assertEqual(self.place(made, [2, 0]), 0)
        self.assertEqual(self.place(made, [2]), 0)
        self.assertEqual(self.place(made, [1]), 1)
        made = shape(number(), some("a"), ("switch", "s", "n", [(1, [])]))
        self.assertEqual(self.place(made, [2, 0]), 1)
        self.assertEqual(self.place(made, [2]), 1)
        self.assertEqual(paths(made, [1, 0]), [()])

    def test_empty_file(self):
        self.assertIs(is_read(shape(some(length=0)), []), True)
        self.assertIs(is_read(shape(("either", "e", [[some()], []])), []), True)
        self.assertEqual(self.place(shape(some()), []), 0)
        self.assertEqual(self.place(shape(some(length=0)), [0]), 0)


class NoFileTest(unittest.TestCase):
    def test_no_files(self):
        made = ambiguous(2)
        for data in NO_FILES:
            for ask in (paths, readings, read, is_read):
                with self.assertRaises(InvalidFile):
                    ask(made, data)
                with self.assertRaises(InvalidFile):
                    ask(made, data, limit=1)
            with self.assertRaises(InvalidFile):
                values_by(made, data, (5, 5, 5))

    def test_longest_file(self):
        self.assertIs(is_read(ambiguous(2), [0] * 4096), False)


class TooManyTest(unittest.TestCase):
    def limits(self, made, data, most):
        """No more than `most` ways are there behind any byte."""
        for ask in (paths, readings, read, is_read):
            with self.assertRaises(TooMany) as caught:
                ask(made, data, limit=most - 1)
            self.assertEqual(caught.exception.limit, most - 1)
            ask(made, data, limit=most)

    def test_ways(self):
        self.limits(ambiguous(1), [0], 2)
        self.limits(ambiguous(5), [0] * 5, 32)
        self.limits(ambiguous(4), [0] * 4, 16)
        with self.assertRaises(TooMany):
            is_read(ambiguous(11), [0] * 11)
        self.assertIs(is_read(ambiguous(10), [0] * 10), True)

    def test_before_the_first_byte(self):
        made = shape(("either", "e", [[number("a", high=0)], [number("b", low=1)], [number("c", low=2)]]))
        self.limits(made, [0], 3)
        for data in ([], [0], [77], [77, 0, 0]):
            with self.assertRaises(TooMany):
                is_read(made, data, limit=2)

    def test_default_limit(self):
        made = shape(("repeat", "r", 10, [("either", "e", [[some("a")], [some("b")]])]), ("either", "f", [[some("c")], [some("d")]]))
        for ask in (paths, readings, read, is_read):
            with self.assertRaises(TooMany) as caught:
                ask(made, [0] * 11)
            self.assertEqual(caught.exception.limit, 2000)

    def test_ways_that_end_later_count(self):
        made = shape(("either", "e", [[some("a"), number("x", high=0)], [some("b"), number("y", high=1)], [some("c")]]))
        self.limits(made, [5, 1], 3)
        made = shape(("either", "e", [[number("a")], [number("b"), some("c", 2)], [number("d", low=4)]]))
        self.limits(made, [5], 3)

    def test_done_ways_count(self):
        made = shape(number(), ("either", "e", [[], [some("a")], [some("b", 2)]]))
        self.limits(made, [5], 3)

    def test_ways_in_one_state_count(self):
        made = shape(("either", "e", [[some("a")], [some("b")], [some("c")], [some("d")]]), some("z"))
        self.limits(made, [5, 5], 4)

    def test_before_not_read(self):
        made = shape(some("a"), ("either", "e", [[some("b")], [some("c")], [some("d")]]), number())
        for data in ([1, 2, 99], [1, 2], [1, 2, 3, 4], [1]):
            for ask in (paths, readings, read, is_read):
                with self.assertRaises(TooMany):
                    ask(made, data, limit=2)
                if ask is not is_read:
                    with self.assertRaises(NotRead):
                        ask(made, data, limit=3)

    def test_behind_not_read(self):
        made = shape(number(), ("either", "e", [[some("b")], [some("c")], [some("d")]]))
        with self.assertRaises(NotRead) as caught:
            read(made, [99, 1], limit=1)
        self.assertEqual(caught.exception.place, 0)
        self.assertIs(is_read(made, [99, 1], limit=1), False)
        made = shape(number("m"), number(), ("either", "e", [[some("b")], [some("c")]]))
        self.assertIs(is_read(made, [1], limit=1), False)

    def test_tag_without_a_case_takes_no_byte(self):
        cases = [(1, [("either", "e", [[some("a")], [some("b")]])]), (2, [some("c")])]
        made = shape(number(), ("switch", "s", "n", cases))
        self.assertIs(is_read(made, [3], limit=1), False)
        self.assertIs(is_read(made, [2, 0], limit=1), True)
        with self.assertRaises(TooMany):
            is_read(made, [1], limit=1)

    def test_many_ways_and_a_great_limit(self):
        made = shape(("repeat", "q", 16, [("repeat", "r", 4, [("either", "e", [[some("a")], [some("b")]])])]))
        self.assertIs(is_read(made, [0] * 64, limit=2 ** 64), True)
        self.assertEqual(read(made, [0] * 64, limit=2 ** 64).path, (0,) * 64)
        with self.assertRaises(TooMany):
            is_read(made, [0] * 64, limit=2 ** 64 - 1)


class ValuesByTest(unittest.TestCase):
    def test_each_path(self):
        inner = ("either", "f", [[some("c", 2)], [some("d")]])
        made = shape(("either", "e", [[some("a", 2)], [inner, ("either", "g", [[], [some("x")]])], [some("b", 2)]]))
        for reading in readings(made, [1, 2]):
            self.assertEqual(values_by(made, [1, 2], reading.path), reading.content)

    def test_other_paths(self):
        made = shape(("either", "e", [[some("a")], [number()]]), ("either", "f", [[some("b")], [some("c", 2)]]))
        self.assertEqual(values_by(made, [1, 2], (1, 0)), [("e", (1, [("n", 1)])), ("f", (0, [("b", [2])]))])
        for path in ((), (0,), (0, 0, 0), (1, 0, 1), (0, 1), (0, 2), (2, 0), (-1, 0), (0, -1), (0, -2), (7, 7), (1, 1)):
            with self.assertRaises(NotRead, msg=path):
                values_by(made, [1, 2], path)
        with self.assertRaises(NotRead):
            values_by(made, [99, 2], (1, 0))
        with self.assertRaises(NotRead):
            values_by(made, [99, 2, 3], (0, 0))
        with self.assertRaises(NotRead):
            values_by(made, [99], (0, 0))
        with self.assertRaises(NotRead):
            values_by(shape(some()), [1], (0,))

    def test_files_that_are_not_read(self):
        rows = (
            ([number(low=3)], [2]), ([number(size=2)], [0]), ([("text", "t", 0, 2)], [1, 1, 1, 0]), ([("text", "t", 0, 2)], [1, 1]),
            ([some(), ("check", "c", 7)], [5, 6]), ([some(), ("check", "c", 7)], [5]), ([some(), ("pad", "p", 4, 1)], [0, 1, 1, 0]),
            ([some(), ("pad", "p", 4, 1)], [0, 1, 1]), ([number(), ("switch", "s", "n", [(1, [])])], [0]),
            ([("repeat", "r", 2, [some()])], [1]), ([("repeat", "r", 2, [some()])], [1, 1, 1]), ([some("b", 3)], [1, 1]),
        )
        for items, data in rows:
            with self.assertRaises(NotRead, msg=items):
                values_by(shape(*items), data, ())

    def test_many_ways(self):
        self.assertEqual(len(values_by(ambiguous(16), [0] * 16, (1,) * 16)[0][1]), 16)


class ReadingsAtRandomTest(unittest.TestCase):
    def test_readings(self):
        for seed in range(300):
            made = shape_at_random(seed)
            data = file_at_random(Machine(made), seed, 40)
            for changed in (data, data[:-1], data + [0], data[:2] + [7] + data[3:]):
                self.compare(made, changed)

    def compare(self, made, data):
        wanted = sorted(Ways(made.parts, data).done)
        self.assertIs(is_read(made, data), bool(wanted))
        if wanted:
            self.assertEqual([(one.path, one.content) for one in readings(made, data)], wanted)
            self.assertEqual(paths(made, data), [path for path, _ in wanted])
            self.assertEqual((read(made, data).path, read(made, data).content), wanted[0])
            for path, content in wanted:
                self.assertEqual(values_by(made, data, path), content)
            return
        taken = [many for many in range(len(data) + 1) if self.ways(made, data[:many])]
        with self.assertRaises(NotRead) as caught:
            read(made, data)
        self.assertEqual(caught.exception.place, taken[-1])

    def ways(self, made, data):
        found = Ways(made.parts, data)
        return found.waiting or found.done


if __name__ == "__main__":
    unittest.main()
