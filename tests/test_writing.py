"""Writing: points 43 to 46."""

import copy
import unittest

from brute import by_length, some_tried
from byteshape.errors import InvalidValue, TooMany
from byteshape.reading import readings, values_by
from byteshape.search import first_read
from byteshape.shapes import Shape
from byteshape.writing import first_file, write
from made import number, shape, some, too_many
from shapes_at_random import shape_at_random

# Each row: an item, a value that is right for it, and values that are wrong. The number n, 2, stands ahead of it.
WRONG = [
    (number("x", low=3, high=7), 5, [2, 8, -1, 256, True, None, "5", [5], (5,)]),
    (number("x", low=0, high=7), 0, [False, True, 8, -1, [], None]),
    (number("x", 2, "little", 255, 700), 256, [254, 701, 65536, True, None]),
    (some("x", 2), [0, 255], [[0], [0, 0, 0], [], [0, 256], [0, -1], [0, True], [False, 0], [0, None], [0, "a"], [0, [0]], (0, 0), None, 2]),
    (some("x", "n"), [0, 255], [[0], [0, 0, 0], [], [0, 256], [0, True], (0, 0), None, "ab", {0: 0, 1: 0}]),
    (some("x", 0), [], [[0], (), None, 0, False]),
    (("text", "x", 7, 2), [0, 255], [[0, 0, 0], [7], [0, 7], [7, 0], [256], [-1], [True], [None], (0,), None, "a"]),
    (("text", "x", 1, 0), [], [[0], [1], (), None]),
    (("text", "x", 1, 2), [0], [[True], [1], [False]]),
    (("repeat", "x", 2, [number("y")]), [[("y", 1)], [("y", 2)]], [
        [[("y", 1)]], [[("y", 1)]] * 3, [], ([("y", 1)], [("y", 2)]), None, 2,
        [[("y", 1)], (("y", 2),)], [[("y", 1)], None], [[("y", 1), ("y", 1)], [("y", 2)]], [[("y", 1)], [("y", 2), 5]]]),
    (("repeat", "x", "n", [number("y")]), [[("y", 1)], [("y", 2)]], [[[("y", 1)]], [[("y", 1)]] * 3, [], None, {}]),
    (("repeat", "x", 0, [number("y")]), [], [[[]], [[("y", 1)]], (), None]),
    (("either", "x", [[number("y")], [], [some("z", 1)]]), (0, [("y", 3)]), [
        (3, []), (-1, []), (-3, [("y", 3)]), (True, []), (False, [("y", 3)]), (None, []), ("0", [("y", 3)]), [0, [("y", 3)]],
        (0,), (0, [("y", 3)], 0), (), None, 0, (0, None), (0, (("y", 3),)), (1, None), (1, [("y", 3)]), (1, ()),
        (0, [("y", 3), ("z", [1])]), (2, [("z", [1]), None])]),
    (("switch", "x", "n", [(2, [number("y")]), (3, [])]), [("y", 3)], [None, (("y", 3),), 2, (0, [("y", 3)]), [("y", 3), ("y", 3)]]),
]
# What does not fit, whatever stands behind it.
NO_ENTRIES = [None, 5, "x", ["x", 0], ("x",), (), {"x": 0}]


class WriteTest(unittest.TestCase):
    def fault(self, made, values):
        """The name of the item for which the values are invalid; the values stay as they were."""
        before = copy.deepcopy(values)
        try:
            write(made, values)
        except InvalidValue as error:
            self.assertEqual(values, before)
            return error.name
        return None

    def test_examples(self):
        made = Shape([("number", "size", 1, "big", 0, 9), ("bytes", "body", "size"), ("check", "sum", 16)])
        self.assertEqual(write(made, [("size", 2), ("body", [7, 9])]), [2, 7, 9, 2])
        with self.assertRaises(InvalidValue) as caught:
            write(made, [("size", 2), ("body", [7])])
        self.assertEqual(caught.exception.name, "body")

    def test_each_kind(self):
        self.assertEqual(write(shape(number(low=3)), [("n", 3)]), [3])
        self.assertEqual(write(shape(number(size=2, high=700)), [("n", 515)]), [2, 3])
        self.assertEqual(write(shape(number(size=2, order="little", high=700)), [("n", 515)]), [3, 2])
        self.assertEqual(write(shape(number(size=2, order="little", high=700)), [("n", 5)]), [5, 0])
        for value, told in ((65535, [255, 255]), (256, [1, 0]), (255, [0, 255]), (511, [1, 255]), (65280, [255, 0])):
            self.assertEqual(write(shape(number(size=2, high=65535)), [("n", value)]), told)
            self.assertEqual(write(shape(number(size=2, order="little", high=65535)), [("n", value)]), told[::-1])
        self.assertEqual(write(shape(some("b", 3)), [("b", [1, 0, 255])]), [1, 0, 255])
        self.assertEqual(write(shape(("text", "t", 9, 3)), [("t", [1, 2, 3])]), [1, 2, 3, 9])
        self.assertEqual(write(shape(("text", "t", 9, 3)), [("t", [])]), [9])
        self.assertEqual(write(shape(("repeat", "r", 2, [number(), some("b", "n")])),
                               [("r", [[("n", 1), ("b", [5])], [("n", 2), ("b", [6, 7])]])]), [1, 5, 2, 6, 7])
        made = shape(("either", "e", [[number()], [], [some("b", 2)]]))
        self.assertEqual(write(made, [("e", (0, [("n", 4)]))]), [4])
        self.assertEqual(write(made, [("e", (1, []))]), [])
        self.assertEqual(write(made, [("e", (2, [("b", [4, 5])]))]), [4, 5])
        made = shape(number(), ("switch", "s", "n", [(3, [some("a")]), (4, []), (5, [some("b", 2)])]))
        self.assertEqual(write(made, [("n", 3), ("s", [("a", [7])])]), [3, 7])
        self.assertEqual(write(made, [("n", 4), ("s", [])]), [4])
        self.assertEqual(write(made, [("n", 5), ("s", [("b", [7, 8])])]), [5, 7, 8])

    def test_checks_and_pads(self):
        made = shape(some("a", 3), ("pad", "p", 8, 200), ("check", "c", 16), ("pad", "q", 2, 9))
        self.assertEqual(write(made, [("a", [1, 2, 3])]), [1, 2, 3] + [200] * 5 + [1006 % 16, 9])
        made = shape(("repeat", "r", 3, [some("a"), ("check", "c", 7)]), ("pad", "p", 4, 1))
        self.assertEqual(write(made, [("r", [[("a", [5])], [("a", [6])], [("a", [250])]])]), [5, 5, 6, 2, 250, 268 % 7, 1, 1])
        self.assertEqual(write(shape(("check", "c", 7)), []), [0])
        self.assertEqual(write(shape(("check", "c", 1)), []), [0])
        self.assertEqual(write(shape(some("a"), ("pad", "p", 1, 7)), [("a", [3])]), [3])

    def test_blocks_of_checks_and_pads(self):
        made = shape(number(), ("either", "e", [[("check", "c", 5)], []]), ("repeat", "r", 2, [number("m"), ("pad", "p", 2, 0)]))
        self.assertEqual(write(made, [("n", 8), ("e", (0, [])), ("r", [[("m", 1)], [("m", 2)]])]), [8, 3, 1, 0, 2, 0])
        self.assertEqual(self.fault(made, [("n", 8), ("e", (0, [("c", 3)])), ("r", [])]), "e")

    def test_wrong_values(self):
        for item, right, wrong in WRONG:
            made = shape(number(), item, number("z9"))
            self.assertIsNone(self.fault(made, [("n", 2), ("x", right), ("z9", 0)]), (item, right))
            for value in wrong:
                self.assertEqual(self.fault(made, [("n", 2), ("x", value), ("z9", 0)]), "x", (item, value))

    def test_wrong_values_within_blocks(self):
        for item, right, wrong in WRONG:
            blocks = [
                (("repeat", "o", 1, [number("m9"), item, number("z9")]), lambda values: [values]),
                (("either", "o", [[number("m9"), item, number("z9")], []]), lambda values: (0, values)),
                (("switch", "o", "n", [(1, []), (2, [number("m9"), item, number("z9")])]), lambda values: values),
            ]
            for block, around in blocks:
                made = shape(number(), block)
                self.assertIsNone(self.fault(made, [("n", 2), ("o", around([("m9", 0), ("x", right), ("z9", 0)]))]))
                for value in wrong:
                    values = [("n", 2), ("o", around([("m9", 0), ("x", value), ("z9", 99)]))]
                    self.assertEqual(self.fault(made, values), "x", (item, value))

    def test_wrong_entries(self):
        for item, right, _ in WRONG:
            made = shape(number(), item, number("z9"))
            for entry in NO_ENTRIES + [("y9", right), ("", right), (None, right), ("x", right, 0), ["x", right], (right, "x")]:
                self.assertEqual(self.fault(made, [("n", 2), entry, ("z9", 0)]), "x", (item, entry))
            self.assertEqual(self.fault(made, [("n", 2)]), "x")
            self.assertEqual(self.fault(made, [("n", 2), ("z9", 0)]), "x")
            self.assertEqual(self.fault(made, [("z9", 0), ("n", 2), ("x", right)]), "n")
            self.assertEqual(self.fault(made, []), "n")
            self.assertEqual(self.fault(made, [("n", 2), ("x", right)]), "z9")

    def test_wrong_entries_within_blocks(self):
        for item, right, _ in WRONG:
            made = shape(number(), ("either", "o", [[], [("repeat", "p", 1, [item, number("z9")])]]))
            last = ("z9", 0)
            for entry in NO_ENTRIES + [("y9", right), ("x", right, 0), ["x", right]]:
                self.assertEqual(self.fault(made, [("n", 2), ("o", (1, [("p", [[entry, last]])]))]), "x", (item, entry))
            rows = [([("x", right), last], None), ([], "x"), ([last], "x"), ([("x", right)], "z9"), ([("x", right), last, last], "p")]
            for row, name in rows:
                self.assertEqual(self.fault(made, [("n", 2), ("o", (1, [("p", [row])]))]), name)
            whole = ("p", [[("x", right), last]])
            self.assertEqual(self.fault(made, [("n", 2), ("o", (1, []))]), "p")
            self.assertEqual(self.fault(made, [("n", 2), ("o", (1, [whole, whole]))]), "o")
            self.assertEqual(self.fault(made, [("n", 2), ("o", (1, [whole])), 0]), "")

    def test_value_lists_that_are_none(self):
        made = shape(number())
        for values in (None, (("n", 1),), 5, "n", {"n": 1}, ("n", 1)):
            self.assertEqual(self.fault(made, values), "", values)
        self.assertEqual(self.fault(shape(("check", "c", 5)), None), "")

    def test_entries_behind_the_last_item(self):
        made = shape(number(), ("check", "c", 5))
        for more in (("n", 1), ("c", 1), ("x", 1), None, ()):
            self.assertEqual(self.fault(made, [("n", 1), more]), "")

    def test_tag_without_a_case(self):
        made = shape(number(), ("switch", "s", "n", [(3, []), (12, [])]), number("m"))
        for values in ([], None, [("m", 1)]):
            self.assertEqual(self.fault(made, [("n", 4), ("s", values), ("m", 1)]), "s")
        self.assertEqual(self.fault(made, [("n", 4), ("m", 1)]), "s")
        self.assertIsNone(self.fault(made, [("n", 3), ("s", []), ("m", 1)]))

    def test_first_fault(self):
        made = shape(number(), ("repeat", "r", "n", [number("m"), some("b", "m")]), ("text", "t", 0, 2))
        right = [("n", 2), ("r", [[("m", 1), ("b", [5])], [("m", 0), ("b", [])]]), ("t", [1])]
        self.assertIsNone(self.fault(made, right))
        self.assertEqual(self.fault(made, [("n", 10), ("r", None), ("t", None)]), "n")
        self.assertEqual(self.fault(made, [("n", 3), right[1], ("t", None)]), "r")
        self.assertEqual(self.fault(made, [("n", 2), ("r", [[("m", 1), ("b", [])], [("m", 10), ("b", [])]]), ("t", [1])]), "b")
        self.assertEqual(self.fault(made, [("n", 2), ("r", [[("m", 1), ("b", [5])], [("m", 10), ("b", None)]]), ("t", [1])]), "m")
        self.assertEqual(self.fault(made, [("n", 2), ("r", [[("m", 10), ("b", [5])], None]), ("t", [1])]), "m")
        self.assertEqual(self.fault(made, [("n", 2), ("r", [[("m", 1), ("b", [5]), 7], [("m", 10)]]), ("t", [1])]), "r")
        self.assertEqual(self.fault(made, right[:2] + [("t", [0])] + [5]), "t")
        self.assertEqual(self.fault(made, right[:2] + [5, 5, 5]), "t")
        self.assertEqual(self.fault(made, right + [5]), "")

    def test_numbers_of_the_present_round(self):
        made = shape(number(), ("repeat", "r", 2, [number("m"), some("b", "m"), some("c", "n")]))
        values = [("n", 1), ("r", [[("m", 0), ("b", []), ("c", [8])], [("m", 2), ("b", [6, 7]), ("c", [9])]])]
        self.assertEqual(write(made, values), [1, 0, 8, 2, 6, 7, 9])

    def test_long_files(self):
        made = shape(("repeat", "r", 16, [("repeat", "q", 16, [some("b", 64), ("check", "c", 16)])]), ("pad", "p", 16, 1))
        values = [("r", [[("q", [[("b", [3] * 64)]] * 16)]] * 16)]
        data = write(made, values)
        self.assertEqual(len(data), 16640)
        self.assertEqual(data[64], 0)
        self.assertEqual(data[129], 384 % 16)

    def test_arguments_and_answers(self):
        made = shape(some("b", 2), ("repeat", "r", 1, [some("c", 2)]))
        values = [("b", [1, 2]), ("r", [[("c", [3, 4])]])]
        before = copy.deepcopy(values)
        data = write(made, values)
        data.append(9)
        data[0] = 7
        self.assertEqual(values, before)
        self.assertEqual(write(made, values), [1, 2, 3, 4])


class ReadAgainTest(unittest.TestCase):
    def test_readings_are_written_back(self):
        many = 0
        for made, found in some_tried():
            for one in found.values():
                for path, content in one.readings:
                    many += 1
                    self.assertEqual(write(made, content), one.file)
                for reading in readings(made, one.file) if one.readings else []:
                    self.assertEqual(write(made, reading.content), one.file)
        self.assertGreater(many, 500)

    def test_what_is_written_is_read(self):
        many = 0
        for seed in range(80):
            made = shape_at_random(seed)
            try:
                data = first_read(made, limit=300)
            except TooMany:
                continue
            for reading in readings(made, data) if data is not None else []:
                many += 1
                values = [self.other(made, entry) for entry in reading.content]
                again = write(made, values)
                self.assertIn((reading.path, values), [(one.path, one.content) for one in readings(made, again)])
                self.assertEqual(write(made, reading.content), data)
        self.assertGreater(many, 30)

    def other(self, made, entry):
        """An entry of the outermost list with other bytes, if it is bytes."""
        if made.item(entry[0])[0] == "bytes":
            return (entry[0], [byte ^ 0x55 for byte in entry[1]])
        return entry


class FirstFileTest(unittest.TestCase):
    def test_example(self):
        made = Shape([("either", "kind", [[("number", "a", 1, "big", 3, 9)], [("bytes", "b", 2)]]), ("number", "end", 1, "big", 5, 5)])
        self.assertEqual((first_file(made, [0]), first_file(made, [1]), first_file(made, [])), ([3, 5], [0, 0, 5], None))

    def made(self):
        inner = ("either", "f", [[number("a", low=1)], [number("b", low=2), some("c")], []])
        return shape(number(high=2), ("repeat", "r", "n", [("either", "e", [[inner], [some("d", 2)]]), number("m", low=4)]))

    def test_paths_of_every_length(self):
        made = self.made()
        self.assertEqual(first_file(made, []), [0])
        self.assertEqual(first_file(made, [1]), [1, 0, 0, 4])
        self.assertEqual(first_file(made, [0, 0]), [1, 1, 4])
        self.assertEqual(first_file(made, [0, 1]), [1, 2, 0, 4])
        self.assertEqual(first_file(made, [0, 2]), [1, 4])
        self.assertEqual(first_file(made, [1, 1]), [2, 0, 0, 4, 0, 0, 4])
        self.assertEqual(first_file(made, [1, 0, 0]), [2, 0, 0, 4, 1, 4])
        self.assertEqual(first_file(made, [0, 2, 0, 1]), [2, 4, 2, 0, 4])
        for path in ([], [1], [0, 1], [0, 2, 1], [0, 0, 0, 2]):
            data = first_file(made, path)
            self.assertTrue(values_by(made, data, tuple(path)))

    def test_no_paths(self):
        made = self.made()
        for path in ([0], [2], [3], [-1], [7], [0, 3], [1, 2], [1, 1, 1], [0, 0, 0], [0, 0, 0, 0, 0], [1, 1, 0, 0], [0] * 50, [1, 0]):
            self.assertIsNone(first_file(made, path), path)

    def test_lists_and_tuples(self):
        made = self.made()
        for path in ([1, 0, 0], [1], [], [5]):
            given = list(path)
            self.assertEqual(first_file(made, given), first_file(made, tuple(path)))
            self.assertEqual(given, path)

    def test_order_of_files(self):
        # The shorter file comes first, though its bytes are greater.
        made = shape(number(low=1, high=3), ("switch", "s", "n", [(1, [some("a", 3)]), (2, [some("b", 2)]), (3, [some("c", 2)])]),
                     ("either", "e", [[], [some("d")]]))
        self.assertEqual(first_file(made, [0]), [2, 0, 0])
        self.assertEqual(first_file(made, [1]), [2, 0, 0, 0])
        # A length at which no file ends comes again for other states.
        made = shape(("text", "t", 9, 3), ("either", "e", [[number("a", low=5)], []]), ("pad", "p", 4, 7))
        self.assertEqual(first_file(made, [0]), [0, 0, 9, 5])
        self.assertEqual(first_file(made, [1]), [0, 0, 0, 9])

    def test_nothing_is_read(self):
        made = shape(number(), ("either", "e", [[], [some("a")]]), ("switch", "s", "n", [(10, [])]))
        self.assertIsNone(first_file(made, [0]))
        self.assertIsNone(first_file(made, [1]))

    def test_limit(self):
        # Length by length: one pair, then nine and the end; then the first file is found with the next length.
        made = shape(number(low=1), some("b", "n"))
        self.assertEqual(first_file(made, [], limit=1 + 9 + 9), [1, 0])
        for limit in range(1, 19):
            self.assertTrue(too_many(lambda limit: first_file(made, [], limit=limit), limit))

    def test_length_at_which_the_first_file_is_found(self):
        # Behind one byte the file can end; the other states of this length count, those behind it do not.
        made = shape(number(), some("b", "n"), some("c", 0))
        self.assertEqual(first_file(made, [], limit=11), [0])
        self.assertTrue(too_many(lambda limit: first_file(made, [], limit=limit), 10))
        made = shape(("either", "e", [[], [some("b", 64)]]))
        self.assertEqual(first_file(made, [0], limit=1), [])
        self.assertEqual(first_file(made, [1], limit=65), [0] * 64)
        self.assertTrue(too_many(lambda limit: first_file(made, [1], limit=limit), 64))

    def test_no_file_along_the_path(self):
        # The pairs along the path count, also if no file is found.
        made = shape(some("a", 3), ("either", "e", [[some("b")], [some("c")]]))
        self.assertIsNone(first_file(made, [2], limit=3))
        self.assertTrue(too_many(lambda limit: first_file(made, [2], limit=limit), 2))
        self.assertIsNone(first_file(made, [0, 0], limit=5))
        self.assertTrue(too_many(lambda limit: first_file(made, [0, 0], limit=limit), 4))

    def test_pairs_of_a_state_and_a_count(self):
        # The state behind both choices is the same, but other counts of choices are other pairs.
        inner = ("either", "f", [[some("a")], [some("b", 2)]])
        made = shape(("either", "e", [[inner], [some("c", 3)]]), some("d", 5))
        self.assertEqual(first_file(made, [0, 0], limit=7), [0] * 6)
        self.assertTrue(too_many(lambda limit: first_file(made, [0, 0], limit=limit), 6))
        cases = [(1, [some("x", 2)]), (2, [("either", "e", [[some("a")], [some("b", 2)]]), some("y")])]
        made = shape(number(low=1, high=2), ("switch", "s", "n", cases), some("c", 3))
        self.assertEqual(first_file(made, [0], limit=1 + 2 * 6), [2, 0, 0, 0, 0, 0])
        self.assertTrue(too_many(lambda limit: first_file(made, [0], limit=limit), 12))

    def test_usual_limit(self):
        blocks = [some("b" + str(k), 64) for k in range(12)]
        made = shape(("repeat", "r", 2, blocks), *[some("a" + str(k), 64) for k in range(7)], some("x", 15))
        self.assertEqual(first_file(made, []), [0] * 1999)
        self.assertTrue(too_many(lambda limit: first_file(made.with_item("x", some("x", 16)), []), 2000))

    def test_answers_are_new(self):
        made = self.made()
        first_file(made, [1]).append(9)
        self.assertEqual(first_file(made, [1]), [1, 0, 0, 4])

    def test_tiny_shapes(self):
        for made, found in some_tried():
            paths = {path: True for one in found.values() for path, content in one.readings}
            for path in list(paths)[:12] + [(), (0,), (1, 0), (3,)]:
                total = 0
                expected = None
                for row in by_length(found):
                    total += len({(state, len(before)) for one in row for before, state in one.ways if path[:len(before)] == before})
                    files = [one.file for one in row if path in dict(one.readings)]
                    if files:
                        expected = min(files)
                        break
                self.assertEqual(first_file(made, path, limit=max(total, 1)), expected, (made.parts, path))
                if total > 1:
                    self.assertTrue(too_many(lambda limit: first_file(made, path, limit=limit), total - 1))


if __name__ == "__main__":
    unittest.main()
