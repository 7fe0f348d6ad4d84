"""Which states are the same: points 18 to 20."""

import unittest

from byteshape.machine import Machine
from made import number, shape, some
from naive import Ways, described
from shapes_at_random import file_at_random, shape_at_random


class StatesTest(unittest.TestCase):
    def state(self, machine, data):
        """The only state behind some bytes."""
        states = [state for state, choices in machine.start()]
        for byte in data:
            states = [entry[0] for state in states for entry in machine.step(state, byte)]
        self.assertEqual(len(states), 1, data)
        return states[0]

    def same(self, items, *rows, tell=()):
        """All of these bytes lead to one state."""
        machine = Machine(shape(*items), tell=tell)
        for data in rows[1:]:
            self.assertEqual(self.state(machine, rows[0]), self.state(machine, data), (items, rows[0], data))

    def differ(self, items, *rows, tell=()):
        """Each two of these bytes lead to different states."""
        machine = Machine(shape(*items), tell=tell)
        states = [self.state(machine, data) for data in rows]
        for at, state in enumerate(states):
            self.assertNotIn(state, states[:at], (items, rows[at]))

    def test_keys(self):
        machine = Machine(shape(number(size=2, high=700), ("repeat", "r", 2, [some()])), tell=["n"])
        states = [self.state(machine, [2, 1, 1, 1][:many]) for many in range(5)]
        self.assertEqual(len({state: True for state in states}), 5)
        for state in states:
            self.assertIs(type(state), tuple)

    def test_machines_of_equal_shapes(self):
        items = [number("m"), number(size=2, high=700), ("repeat", "r", 2, [some("b", 3)]), ("check", "c", 7)]
        one = Machine(shape(*items), tell=["n", "m"])
        other = Machine(shape(*items), tell=["m", "n"])
        for many in range(6):
            data = [3, 2, 1, 9, 9, 9][:many]
            self.assertEqual(self.state(one, data), self.state(other, data))
        data = self.state(one, [3, 2])
        self.assertEqual(one.step(data, 7), other.step(data, 7))
        self.assertEqual(one.classes(data), other.classes(data))

    def test_done_states(self):
        items = [number(), ("switch", "s", "n", [(0, []), (1, [some("a")]), (2, [number("m"), some("b", "m")])])]
        self.same(items, [0], [1, 7], [2, 0], [2, 2, 5, 5])

    def test_items_that_wait(self):
        self.differ([some("a", 2), some("b", 2)], [], [0, 0])
        self.differ([some("a"), some("b")], [], [0], [0, 0])

    def test_rounds(self):
        self.differ([("repeat", "r", 3, [some()])], [], [0], [0, 0], [0, 0, 0])
        self.differ([("repeat", "r", 2, [("repeat", "q", 2, [some()])])], [], [0], [0, 0], [0, 0, 0])
        self.same([number(), ("repeat", "r", "n", [some("b", 2)]), some("c")], [3, 0, 0], [2])
        self.differ([number(), ("repeat", "r", "n", [some("b", 2)]), some("c")], [3, 0, 0], [2, 0])
        self.differ([number(), ("repeat", "r", "n", [some("b")])], [1], [2], [3])

    def test_how_far_bytes_are(self):
        self.differ([some("b", 3)], [], [0], [0, 0])
        self.same([number(), some("b", "n")], [4, 7, 7], [3, 8], [2])
        self.differ([number(), some("b", "n")], [4], [3], [2])

    def test_how_far_a_text_is(self):
        self.differ([("text", "t", 0, 3)], [], [1], [1, 1], [1, 1, 1])
        self.same([("text", "t", 0, 3)], [1, 2], [2, 1])

    def test_how_far_a_pad_is(self):
        self.differ([some("a"), ("pad", "p", 4, 0)], [1], [1, 0], [1, 0, 0])
        self.same([number(), some("a", "n"), ("pad", "p", 8, 0)], [2, 1, 1], [1, 1, 0])

    def test_awaited_check(self):
        self.differ([some("a"), ("check", "c", 5)], [0], [1], [4])
        self.same([some("a"), ("check", "c", 5)], [0], [5], [255])
        self.same([some("a", 2), ("check", "c", 5)], [1, 2], [2, 1], [5, 3])

    def test_second_bytes(self):
        item = number(size=2, low=0x0110, high=0x0420)
        self.same([item], [2], [3])
        self.differ([item], [], [1], [2], [4])
        self.same([number(size=2, low=0x0100, high=0x03FF)], [1], [2], [3])
        item = number(size=2, order="little", low=0x0110, high=0x0420)
        self.same([item], [0], [0x0F])
        self.same([item], [0x10], [0x20])
        self.same([item], [0x21], [0xFF])
        self.differ([item], [], [0], [0x10], [0x21])

    def test_first_byte_of_a_number_that_is_used(self):
        item = number(size=2, order="little", high=64)
        self.differ([item, some("b", "n")], [1], [2])
        self.same([item, some("b")], [1], [2])
        item = number(size=2, high=16 * 256 + 5)
        self.differ([item, some(), ("switch", "s", "n", [(3, [])])], [1], [2], [3])
        self.same([item, some()], [1], [2], [3])
        self.differ([number(size=2, order="little", high=16), ("repeat", "r", 1, [some(), ("repeat", "q", "n", [some("c")])])], [1], [2])

    def test_first_byte_of_a_number_that_is_told(self):
        item = number(size=2, high=9 * 256 + 7)
        self.differ([item], [1], [2], tell=["n"])
        self.same([item], [1, 5], [2, 6], tell=["n"])
        self.same([item, number("m", 2, high=800)], [1], [2], tell=["m"])
        self.same([item, some()], [1, 5], [2, 6], tell=["n"])

    def test_kept_lengths_and_counts(self):
        self.differ([number(), some("a"), some("b", "n")], [1], [2])
        self.same([number(), some("a"), some("b", "n"), some("c")], [1, 0, 0], [2, 0, 0, 0])
        self.same([number(), some("a", "n"), some("b")], [1], [2, 0])
        self.differ([number(), some("a"), ("repeat", "r", "n", [some("b")])], [1, 0], [2, 0])
        self.differ([number(), some("a"), ("repeat", "r", "n", [some("b")])], [1], [2])
        self.differ([number(), some("a", 2), some("b"), some("d", "n")], [1, 7], [2, 7])

    def test_numbers_that_nothing_uses(self):
        self.same([number(), some("a")], [1], [2])
        self.same([number(), number("m"), some("a", "m")], [1], [2])

    def test_numbers_that_blocks_behind_use(self):
        self.differ([number(), some("a"), ("repeat", "r", 2, [some("c"), some("b", "n")])], [1], [2])
        self.differ([number(), some("a"), ("repeat", "r", 0, [some("c"), some("b", "n")])], [1], [2])
        self.differ([number(), some("a"), ("either", "e", [[some("c")], [some("d"), some("b", "n")]])], [1], [2])
        self.differ([number(), number("m"), ("switch", "s", "m", [(0, []), (1, [some("b", "n")])])], [1], [2])

    def test_numbers_that_another_choice_uses(self):
        items = [number(), ("switch", "s", "n", [(1, [some("a")]), (2, [some("b", "n")]), (3, [some("d")])]), some("z")]
        self.same(items, [1, 0], [2, 0, 0], [3, 0])
        items = [number("m"), number(), ("switch", "s", "m", [(0, [some("a", 2)]), (1, [some("b"), some("d", "n")])])]
        self.same(items, [0, 1], [0, 2])
        self.differ(items, [1, 1], [1, 2])
        self.same(items, [1, 1, 0], [1, 2, 0, 0])

    def test_numbers_that_blocks_around_use_later(self):
        items = [number(), ("repeat", "r", 1, [some("a")]), some("b", "n")]
        self.differ(items, [1], [2])
        items = [("repeat", "r", 1, [number(), ("repeat", "q", 1, [some("a")]), some("b", "n")])]
        self.differ(items, [1], [2])

    def test_numbers_from_outside_of_further_rounds(self):
        items = [number(low=1), ("repeat", "r", 2, [some("b", "n"), some("c")]), some("z")]
        self.differ(items, [1, 0], [2, 0, 0])
        self.same(items, [1, 0, 0, 0], [2, 0, 0, 0, 0, 0])
        items = [number(low=1), ("repeat", "r", 2, [some("a"), ("either", "e", [[some("b", "n")], [some("d")]])])]
        machine = Machine(shape(*items))
        rows = []
        for value in (1, 2):
            states = [state for state, _ in machine.start()]
            for byte in [value, 0]:
                states = [entry[0] for state in states for entry in machine.step(state, byte)]
            rows.append([state for state in states if machine.waits(state) == "d"])
        self.assertNotEqual(rows[0], rows[1])

    def test_counts_of_inner_repeats(self):
        items = [number(low=1), ("repeat", "r", 2, [("repeat", "q", "n", [some("b")])]), some("z")]
        self.differ(items, [1], [2, 0])
        self.same(items, [1, 0], [2, 0, 0, 0])
        self.same(items, [1, 0, 0], [2, 0, 0, 0, 0])

    def test_values_of_earlier_rounds(self):
        items = [("repeat", "r", 2, [some("a"), number(), some("b", "n")])]
        self.same(items, [0, 1, 0], [0, 2, 0, 0], [0, 0])
        self.same(items, [0, 1, 0, 7], [0, 2, 0, 0, 7], [0, 0, 7])
        items = [("repeat", "r", 2, [some("a"), number(low=1), some("c"), ("repeat", "q", "n", [some("b")])])]
        self.same(items, [0, 1, 0, 0], [0, 2, 0, 0, 0])
        self.differ(items, [0, 1], [0, 2])

    def test_rounds_of_the_outer_repeat(self):
        items = [("repeat", "r", 2, [number(low=1), ("repeat", "q", 2, [some("b", "n"), some("c")])])]
        self.differ(items, [1, 0], [2, 0, 0])
        self.same(items, [1, 0, 0, 0], [2, 0, 0, 0, 0, 0])

    def test_tags(self):
        items = [number(), some("a"), ("switch", "s", "n", [(1, []), (2, [])])]
        self.differ(items, [1], [2], [3])
        self.same(items, [0], [3], [9])

    def test_tags_of_several_switches(self):
        items = [number(), some("a"), ("switch", "s", "n", [(1, []), (2, [])]), some("b"), ("switch", "q", "n", [(2, []), (3, []), (7, [])])]
        self.differ(items, [1], [2], [3], [7], [8])
        self.same(items, [0], [4], [9])
        self.differ(items, [1, 0], [2, 0])
        items = [number(), ("either", "e", [[some("a"), ("switch", "s", "n", [(1, [])])], [number("m", low=5, high=5)]])]
        machine = Machine(shape(*items))
        states = [machine.step(machine.start()[0][0], byte)[0][0] for byte in range(10)]
        self.assertEqual(len(set(states)), 2)

    def test_cases_of_switches_that_went_by(self):
        items = [number(), some("a"), ("switch", "s", "n", [(1, []), (2, []), (3, [])]), some("b"), ("switch", "q", "n", [(1, [])])]
        self.differ(items, [1, 0], [2, 0], [3, 0])

    def test_tags_that_are_lengths_too(self):
        items = [number(), some("a"), ("switch", "s", "n", [(1, [])]), some("b", "n")]
        self.differ(items, [0], [3], [9], [1])
        items = [number(), some("a"), ("switch", "s", "n", [(1, [])]), ("repeat", "r", "n", [some("b")])]
        self.differ(items, [0], [3], [9], [1])

    def test_tags_of_two_bytes(self):
        items = [number(size=2, high=65535), some("a"), ("switch", "s", "n", [(258, []), (3, [])])]
        self.differ(items, [0], [1], [2])
        self.same(items, [0, 0], [1, 1], [9, 9])
        self.differ(items, [0, 0], [0, 3], [1, 2])

    def test_tags_that_are_told(self):
        items = [number(), some("a"), ("switch", "s", "n", [(1, []), (2, [])])]
        self.same(items, [0], [3], [9], tell=["n"])

    def test_kept_sum(self):
        items = [some("a", 2), some("b"), ("check", "c", 5)]
        self.same(items, [1], [6], [251])
        self.differ(items, [0], [1], [2], [3], [4])
        self.same(items, [1, 7], [7, 1])
        items = [some("a"), ("check", "c", 5), some("b")]
        self.same(items, [1, 1], [2, 2], [7, 2])
        self.same([some("a", 2)], [1], [2])

    def test_sum_of_a_check_in_a_block(self):
        items = [some("a"), number(), ("switch", "s", "n", [(0, [some("b")]), (1, [("check", "c", 5)])]), some("z")]
        self.differ(items, [1], [2])
        self.same(items, [1, 0], [2, 0])
        self.differ(items, [1, 1], [2, 1])
        self.same(items, [1, 1, 2], [2, 1, 3])

    def test_sum_of_further_rounds(self):
        items = [("repeat", "r", 2, [some("a"), ("check", "c", 5), some("b", 1)])]
        self.differ(items, [1, 1], [2, 2])
        self.same(items, [1, 1], [6, 1])
        self.same(items, [1, 1, 0, 0, 2], [2, 2, 1, 0, 0])

    def test_kept_place(self):
        items = [number(), some("a", "n"), some("b"), ("pad", "p", 4, 0)]
        self.differ(items, [0], [1, 0], [2, 0, 0], [3, 0, 0, 0])
        self.same(items, [0], [4, 0, 0, 0, 0])
        items = [number(), some("a", "n"), some("b")]
        self.same(items, [0], [1, 0])

    def test_greatest_multiple_that_can_begin(self):
        start = [number(high=20), some("a", "n"), some("b")]
        items = start + [("pad", "p", 2, 0), some("d"), ("pad", "q", 8, 0), some("f")]
        self.differ(items, *[[many] + [0] * many for many in range(8)])
        self.same(items, [0], [8] + [0] * 8)
        items = start + [("pad", "q", 8, 0), some("d"), some("f"), ("pad", "p", 2, 0), some("g")]
        self.same(items, [0, 0] + [0] * 6 + [0], [8] + [0] * 8 + [0] + [0] * 6 + [0])
        machine = Machine(shape(*items))
        self.assertEqual(machine.waits(self.state(machine, [0, 0] + [0] * 7)), "f")
        self.same(start + [("pad", "p", 1, 0), some("d")], [0], [1, 0], [2, 0, 0])

    def test_smaller_multiple_behind_a_greater_one(self):
        items = [number(high=20), ("pad", "q", 8, 0), some("a", "n"), some("b"), ("pad", "p", 2, 0), some("c")]
        self.same(items, [0] + [0] * 7, [2] + [0] * 7 + [0] * 2)
        self.differ(items, [0] + [0] * 7, [1] + [0] * 7 + [0])

    def test_place_of_further_rounds(self):
        items = [number(low=1, high=3), ("repeat", "r", "n", [("pad", "p", 4, 0), some("b", 2)]), some("z")]
        self.differ(items, [2, 0, 0, 0, 7], [1, 0, 0, 0, 7])
        self.same(items, [3, 0, 0, 0, 7, 7, 0, 0, 7], [2, 0, 0, 0, 7])
        items = [("repeat", "r", 2, [some("a"), ("either", "e", [[("pad", "p", 4, 0)], [some("b")]])])]
        machine = Machine(shape(*items))
        self.assertEqual(len(machine.step(machine.start()[0][0], 0)), 2)

    def test_sum_and_place_are_not_kept_behind_the_last(self):
        items = [some("a"), ("pad", "p", 2, 0), ("check", "c", 9), some("z", 3)]
        self.same(items, [1, 0, 1], [2, 0, 2], [8, 0, 8])


class StatesAtRandomTest(unittest.TestCase):
    def test_states(self):
        for seed in range(300):
            made = shape_at_random(seed)
            tell = made.outer_numbers()[:seed % 3]
            machine = Machine(made, tell=tell)
            wanted = {}
            found = {}
            for further in range(4):
                data = file_at_random(machine, seed * 10 + further, 24)
                level = [(path, state) for state, path in machine.start()]
                for many in range(len(data) + 1):
                    if many:
                        level = [(path + entry[1], entry[0]) for path, state in level
                                 for entry in machine.step(state, data[many - 1])]
                    ways = Ways(made.parts, data[:many])
                    told = {way[0]: described(made.parts, way, tell) for way in ways.waiting}
                    told.update({path: "done" for path, _ in ways.done})
                    self.assertEqual(sorted(told), [path for path, _ in level])
                    for path, state in level:
                        self.assertEqual(wanted.setdefault(state, told[path]), told[path], (made.parts, data[:many]))
                        self.assertEqual(found.setdefault(told[path], state), state, (made.parts, data[:many]))


if __name__ == "__main__":
    unittest.main()
