"""Faults: points 47 to 51."""

import random
import unittest

from brute import nothing_behind, some_tried
from byteshape.errors import InvalidFile, UnknownName
from byteshape.faults import Fault, fault, first_cut, first_wrong
from byteshape.machine import Machine
from byteshape.reading import is_read
from byteshape.shapes import Shape
from made import NO_FILES, number, shape, some, too_many
from naive import Ways
from shapes_at_random import file_at_random, shape_at_random


def fields(told):
    """The fields of a fault; None for none."""
    return None if told is None else (told.place, told.awaited, told.left_over)


class Beginnings:
    """What the ways through a shape do, for a file and its beginnings: found by trying each of them."""

    def __init__(self, made, data):
        self.ways = []
        for many in range(len(data) + 1):
            ways = Ways(made.parts, data[:many])
            if not ways.done and not ways.waiting:
                break
            self.ways.append(ways)
        self.names = made.names
        self.whole = len(self.ways) == len(data) + 1

    def expected(self):
        """The fields of the fault of the file."""
        last = self.ways[-1]
        if self.whole and last.done:
            return None
        waiting = {one[1][1] for one in last.waiting}
        return (len(self.ways) - 1, [name for name in self.names if name in waiting], bool(last.done))


class FaultTest(unittest.TestCase):
    def check(self, items, data, expected):
        told = fault(shape(*items), data)
        self.assertEqual(fields(told), expected, (items, data))

    def test_example(self):
        made = Shape([("number", "size", 1, "big", 0, 9), ("bytes", "body", "size")])
        told = fault(made, [2, 7])
        self.assertIs(type(told), Fault)
        self.assertEqual((told.place, told.awaited, told.left_over), (2, ["body"], False))

    def test_class(self):
        names = ["a", "b"]
        told = Fault(3, names, True)
        names.append("c")
        self.assertEqual((told.place, told.awaited, told.left_over), (3, ["a", "b"], True))

    def test_files_with_a_reading(self):
        items = [number(), some("b", "n"), ("check", "c", 7)]
        self.check(items, [2, 5, 6, 6], None)
        self.check([some("b", 0)], [], None)
        self.check([("either", "e", [[some("a")], []])], [], None)

    def test_cut_at_each_place(self):
        items = [number(), some("b", "n"), ("text", "t", 0, 3), ("check", "c", 7), ("pad", "p", 8, 1)]
        data = [2, 5, 6, 9, 0, 1, 1, 1]
        self.check(items, data, None)
        for place, name in enumerate(["n", "b", "b", "t", "t", "c", "p", "p"]):
            self.check(items, data[:place], (place, [name], False))

    def test_byte_changed(self):
        items = [number(low=1), some("b", "n"), ("text", "t", 0, 1), ("check", "c", 7), ("pad", "p", 8, 1)]
        data = [2, 5, 6, 9, 0, 1, 1, 1]
        self.check(items, data, None)
        self.check(items, [0] + data[1:], (0, ["n"], False))
        self.check(items, [10] + data[1:], (0, ["n"], False))
        self.check(items, data[:4] + [9] + data[5:], (4, ["t"], False))
        self.check(items, data[:5] + [2, 1, 1], (5, ["c"], False))
        self.check(items, data[:6] + [0, 1], (6, ["p"], False))
        self.check(items, data[:7] + [0], (7, ["p"], False))

    def test_byte_added(self):
        items = [number(), some("b", "n")]
        self.check(items, [2, 5, 6, 7], (3, [], True))
        self.check(items, [2, 5, 6, 7, 8, 9], (3, [], True))
        self.check([some("b", 0)], [0], (0, [], True))
        self.check([("text", "t", 7, 3)], [7, 7], (1, [], True))

    def test_byte_put_in(self):
        self.check([some("a"), number("n", low=7, high=7), number("m")], [1, 7, 3], None)
        self.check([some("a"), number("n", low=7, high=7), number("m")], [1, 1, 7, 3], (1, ["n"], False))
        self.check([some("a"), number("n", low=7, high=7), number("m")], [1, 7, 7, 3], (3, [], True))

    def test_end_and_items_that_wait(self):
        # A reading could end, but another way goes on, too.
        items = [some("a"), ("either", "e", [[], [number("m", low=3)]])]
        self.check(items, [5], None)
        self.check(items, [5, 2], (1, ["m"], True))
        self.check(items, [5, 3], None)
        self.check(items, [5, 3, 0], (2, [], True))
        items = [some("a"), ("either", "e", [[], [number("m", low=3), some("b", 2)]])]
        self.check(items, [5, 3], (2, ["b"], False))
        self.check(items, [5, 3, 1], (3, ["b"], False))
        self.check(items, [5, 3, 1, 2, 2], (4, [], True))

    def test_names_that_wait(self):
        # They stand in the order of the shape, not of the alphabet, and each of them once.
        items = [("either", "e", [[some("z")], [number("a", low=3, high=3)], [number("m", low=3, high=5), some("b")]]), number("c", low=9)]
        self.check(items, [], (0, ["z", "a", "m"], False))
        self.check(items, [3], (1, ["b", "c"], False))
        self.check(items, [1, 2], (1, ["c"], False))
        self.check(items, [3, 9, 0], (2, ["c"], True))
        either = ("either", "e", [[some("z"), some("y")], [some("x")], [some("w", 2)]])
        self.check([("repeat", "r", 2, [either])], [], (0, ["z", "x", "w"], False))
        self.check([("repeat", "r", 2, [either])], [0], (1, ["z", "y", "x", "w"], False))

    def test_names_within_blocks(self):
        items = [("either", "e", [[("repeat", "r", 1, [some("z"), some("b", 2)])], [some("y", 3)]]), some("a")]
        self.check(items, [1, 1], (2, ["b", "y"], False))

    def test_switches_without_a_case(self):
        items = [number(), ("switch", "s", "n", [(3, [some("a")])])]
        self.check(items, [4], (0, ["n"], False))
        self.check(items, [3], (1, ["a"], False))
        items = [number(), some("b"), ("switch", "s", "n", [(3, [some("a")])])]
        self.check(items, [4, 0], (1, ["b"], False))

    def test_longest_files(self):
        made = shape(("repeat", "r", 16, [("repeat", "q", 16, [some("b", 16)])]))
        self.assertIsNone(fault(made, [1] * 4096))
        self.assertEqual(fields(fault(made, [1] * 4095)), (4095, ["b"], False))

    def test_many_ways(self):
        # There are far more ways than states.
        made = shape(("repeat", "r", 16, [("repeat", "q", 16, [("either", "e", [[some("a")], [some("b")], [some("c")]])])]), number())
        self.assertIsNone(fault(made, [0] * 257))
        self.assertEqual(fields(fault(made, [0] * 256)), (256, ["n"], False))
        self.assertEqual(fields(fault(made, [0] * 100)), (100, ["a", "b", "c"], False))

    def test_no_files(self):
        for data in NO_FILES:
            with self.assertRaises(InvalidFile):
                fault(shape(number()), data)

    def test_arguments_and_answers(self):
        made = shape(number(), some("b", "n"))
        data = [2, 7]
        fault(made, data).awaited.append("x")
        self.assertEqual(data, [2, 7])
        self.assertEqual(fields(fault(made, data)), (2, ["b"], False))

    def test_tiny_shapes(self):
        for made, found in some_tried():
            for file, one in found.items():
                expected = None
                if not one.readings:
                    expected = (len(file), [name for name in made.names if name in one.waiting], False)
                self.assertEqual(fields(fault(made, one.file)), expected)
            for data in nothing_behind(found)[:20]:
                one = found[tuple(data[:-1])]
                expected = (len(data) - 1, [name for name in made.names if name in one.waiting], bool(one.readings))
                self.assertEqual(fields(fault(made, data)), expected)
                self.assertEqual(fields(fault(made, data + [0, 3])), expected)

    def test_files_at_random(self):
        faults = 0
        for seed in range(60):
            made = shape_at_random(seed)
            chance = random.Random(seed)
            data = file_at_random(Machine(made), seed, 14)
            place = chance.randint(0, len(data))
            byte = chance.choice([0, 1, 2, 255])
            for one in (data, data[:place], data[:place] + [byte] + data[place + 1:], data[:place] + [byte] + data[place:], data + [byte]):
                expected = Beginnings(made, one).expected()
                self.assertEqual(fields(fault(made, one)), expected, (made.parts, one))
                self.assertEqual(is_read(made, one, limit=10 ** 9), expected is None)
                faults += expected is not None
        self.assertGreater(faults, 100)


class FirstTest(unittest.TestCase):
    def check(self, items, name, cut, wrong):
        made = shape(*items)
        self.assertEqual((first_cut(made, name), first_wrong(made, name)), (cut, wrong), (items, name))

    def test_example(self):
        made = Shape([("number", "size", 1, "big", 1, 9), ("bytes", "body", "size")])
        self.assertEqual((first_cut(made, "body"), first_wrong(made, "size"), first_wrong(made, "body")), ([1], [0], None))

    def test_numbers(self):
        self.check([number()], "n", [], [10])
        self.check([number(low=3)], "n", [], [0])
        self.check([number(high=255)], "n", [], None)
        self.check([number(size=2, high=0x0203)], "n", [], [3])
        self.check([number(size=2, low=0x0005, high=0x0203)], "n", [], [3])
        self.check([number(size=2, low=0x0102, high=0x0203)], "n", [], [0])
        self.check([number(size=2, low=0x0002, high=0xFF03)], "n", [], [0, 0])
        self.check([number(size=2, order="little", high=0x0203)], "n", [], [0, 3])
        self.check([number(size=2, high=65535)], "n", [], None)

    def test_bytes(self):
        self.check([some("b", 3)], "b", [], None)
        self.check([some("b", 0)], "b", None, None)
        self.check([number(), some("b", "n")], "b", [1], None)
        self.check([number(high=0), some("b", "n")], "b", None, None)

    def test_texts(self):
        self.check([("text", "t", 7, 3)], "t", [], [0, 0, 0, 0])
        self.check([("text", "t", 0, 2)], "t", [], [1, 1, 1])
        self.check([("text", "t", 0, 0)], "t", [], [1])
        self.check([("text", "t", 7, 0)], "t", [], [0])

    def test_checks(self):
        self.check([some("a"), ("check", "c", 7)], "c", [0], [0, 1])
        self.check([("check", "c", 7)], "c", [], [1])
        self.check([number(low=5), ("check", "c", 7)], "c", [5], [5, 0])

    def test_pads(self):
        self.check([some("a"), ("pad", "p", 4, 9)], "p", [0], [0, 0])
        self.check([some("a"), ("pad", "p", 4, 0)], "p", [0], [0, 1])
        self.check([some("a", 4), ("pad", "p", 4, 9)], "p", None, None)
        self.check([some("a"), ("pad", "p", 1, 9)], "p", None, None)

    def test_items_that_never_wait(self):
        items = [number(), ("repeat", "r", "n", [("either", "e", [[number("m", low=3)], [some("a", 2)]])]),
                 ("switch", "s", "n", [(0, []), (1, [some("b")])])]
        for name in ("r", "e", "s"):
            self.check(items, name, None, None)
        # The reading of two choices does not end there, but neither can the file be cut where n is 0.
        self.check(items, "b", [1, 3], None)
        self.check([number(low=2), ("switch", "s", "n", [(0, [some("b")]), (3, [])])], "b", None, None)

    def test_other_items_that_wait(self):
        either = ("either", "e", [[number("a", low=3, high=5)], [number("b", low=5, high=7), some("c")]])
        self.check([either], "a", [], [0])
        self.check([either], "b", [], [0])
        # Behind 5 a reading ends, so it is cut only behind 6.
        self.check([either], "c", [6], None)
        items = [("either", "e", [[some("a")], [number("b", low=5, high=7)]]), number("c", low=4)]
        self.check(items, "a", [], None)
        self.check(items, "b", [], None)
        self.check(items, "c", [0], [0, 0])

    def test_beginnings_with_a_reading(self):
        items = [("either", "e", [[], [some("a"), some("b")]])]
        self.check(items, "a", None, None)
        self.check(items, "b", [0], None)
        items = [("either", "e", [[], [number("a", low=3)]])]
        self.check(items, "a", None, [0])

    def test_end_and_a_wrong_byte(self):
        # Behind the end there is no byte; the item does not wait there, but it may wait beside it.
        self.check([number(), some("b", "n")], "b", [1], None)
        self.check([number(), ("either", "e", [[], [number("m", low=4)]])], "m", None, [0, 0])

    def test_items_of_later_rounds(self):
        items = [("repeat", "r", 3, [("text", "t", 5, 2), ("either", "e", [[], [number("m", low=5)]])])]
        # As long as a further round can follow, its text takes the byte.
        self.check(items, "m", [5], [5, 0, 5, 0, 5, 0])

    def test_order_of_files(self):
        items = [number(low=1, high=3), ("switch", "s", "n", [(1, [some("a", 3)]), (2, [some("c", 2)]), (3, [some("d")])]),
                 number("z", low=7)]
        self.check(items, "z", [3, 0], [3, 0, 0])
        self.check(items, "c", [2], None)
        self.check([some("a"), number("n", low=3)], "n", [0], [0, 0])

    def test_states_that_are_not_read(self):
        items = [number(), some("a", 2), ("switch", "s", "n", [(10, [])])]
        self.check(items, "a", [0], [0, 0, 0])
        items = [number(), number("m"), ("switch", "s", "n", [(3, [])])]
        self.check(items, "m", [0], [0, 0])

    def test_unknown_names(self):
        made = shape(number(), some("b", "n"))
        for ask in (first_cut, first_wrong):
            for name in ("x", "", "N", "no name", "bb"):
                with self.assertRaises(UnknownName) as caught:
                    ask(made, name, limit=1)
                self.assertEqual(caught.exception.name, name)

    def test_limit(self):
        # The lists of n, of b with one to three bytes, of the end.
        made = shape(number(high=3), some("b", "n"))
        for ask in (first_cut, first_wrong):
            for name in made.names:
                ask(made, name, limit=5)
                for limit in range(1, 5):
                    self.assertTrue(too_many(lambda limit: ask(made, name, limit=limit), limit), (name, limit))

    def test_limit_whatever_was_found(self):
        made = shape(("either", "e", [[number("a", high=5)], [number("d", high=5), some("b", 50)]]))
        for ask in (first_cut, first_wrong):
            ask(made, "a", limit=52)
            self.assertTrue(too_many(lambda limit: ask(made, "a", limit=limit), 51))

    def test_lists_of_several_states(self):
        # Before the first byte, behind a byte of one choice, of the other one, of both of them; the end.
        made = shape(("either", "e", [[number("a", low=0, high=9), some("c")], [number("b", low=5, high=12), some("d")]]))
        for ask in (first_cut, first_wrong):
            ask(made, "c", limit=5)
            self.assertTrue(too_many(lambda limit: ask(made, "c", limit=limit), 4))
        self.assertEqual(first_cut(made, "c"), [0])
        self.assertEqual(first_cut(made, "d"), [5])

    def test_lists_in_another_order(self):
        # Behind three bytes two and three bytes still come, or three and two: the order makes them different lists.
        choices = [[("switch", "s", "n", [(0, [some("a")]), (1, [some("b", 2)])])],
                   [("switch", "q", "n", [(0, [some("c", 2)]), (1, [some("d")])])]]
        made = shape(number(high=1), ("either", "e", choices), some("z", 3))
        for ask in (first_cut, first_wrong):
            ask(made, "a", limit=12)
            self.assertTrue(too_many(lambda limit: ask(made, "a", limit=limit), 11))

    def test_usual_limit(self):
        blocks = [some("b" + str(k), 64) for k in range(12)]
        made = shape(("repeat", "r", 2, blocks), *[some("a" + str(k), 64) for k in range(7)], number("x"), some("y", 14))
        self.assertEqual(first_wrong(made, "x"), [0] * 1984 + [10])
        self.assertEqual(first_cut(made, "y"), [0] * 1985)
        made = made.with_item("y", some("y", 15))
        for ask in (first_cut, first_wrong):
            self.assertTrue(too_many(lambda limit: ask(made, "x"), 2000))

    def test_answers_are_new(self):
        made = shape(number(low=1), some("b", "n"))
        first_cut(made, "b").append(5)
        first_wrong(made, "n").append(5)
        self.assertEqual((first_cut(made, "b"), first_wrong(made, "n")), ([1], [0]))

    def test_tiny_shapes(self):
        for made, found in some_tried():
            lists = len({one.states for one in found.values()})
            behind = nothing_behind(found)
            for name in made.names:
                cuts = [one.file for one in found.values() if name in one.waiting and not one.readings]
                wrong = [data for data in behind if name in found[tuple(data[:-1])].waiting]
                for ask, files in ((first_cut, cuts), (first_wrong, wrong)):
                    self.assertEqual(ask(made, name, limit=lists), files[0] if files else None, (made.parts, name))
                    if lists > 1:
                        self.assertTrue(too_many(lambda limit: ask(made, name, limit=limit), lists - 1))


if __name__ == "__main__":
    unittest.main()
