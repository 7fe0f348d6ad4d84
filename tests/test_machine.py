"""Machines: points 17, 21 and 22, and files (point 26)."""

import unittest

from byteshape.errors import InvalidFile
from byteshape.machine import LIMIT, Machine, check_file, joint_classes
from made import number, shape, some
from naive import Ways
from shapes_at_random import file_at_random, shape_at_random


def states_behind(machine, data):
    """The states of all ways that take some bytes, in the order of their paths."""
    states = [state for state, choices in machine.start()]
    for byte in data:
        states = [entry[0] for state in states for entry in machine.step(state, byte)]
    return states


def taken(items, data):
    """The bytes that the ways behind some bytes take."""
    machine = Machine(shape(*items))
    states = states_behind(machine, data)
    return [byte for byte in range(256) if any(machine.step(state, byte) for state in states)]


def awaited(items, data):
    """The names of the items that wait behind some bytes, None for a done one."""
    machine = Machine(shape(*items))
    return [machine.waits(state) for state in states_behind(machine, data)]


class FileTest(unittest.TestCase):
    def test_files(self):
        for data in ([], [0], [255], [0] * 4096, list(range(256))):
            self.assertIsNone(check_file(data))

    def test_no_files(self):
        for data in ([0] * 4097, [-1], [256], [True], [False], [0, None], ["0"], [1.0], [[0]], [b"a"], [0, 1, 2, 256], "ab", None,
                     b"ab", (1, 2)):
            with self.assertRaises(InvalidFile):
                check_file(data)

    def test_limit(self):
        self.assertEqual(LIMIT, 2000)


class TakingTest(unittest.TestCase):
    def test_number_of_one_byte(self):
        self.assertEqual(taken([number(low=3, high=7)], []), [3, 4, 5, 6, 7])
        self.assertEqual(taken([number(order="little", low=255, high=255)], []), [255])
        self.assertEqual(taken([number(low=3, high=7)], [3]), [])
        self.assertEqual(awaited([number(low=3, high=7)], [3]), [None])

    def test_big_number_of_two_bytes(self):
        item = number(size=2, low=0x01FE, high=0x0403)
        self.assertEqual(taken([item], []), [1, 2, 3, 4])
        self.assertEqual(taken([item], [1]), [254, 255])
        self.assertEqual(taken([item], [2]), list(range(256)))
        self.assertEqual(taken([item], [4]), [0, 1, 2, 3])
        narrow = number(size=2, low=0x0102, high=0x0105)
        self.assertEqual(taken([narrow], []), [1])
        self.assertEqual(taken([narrow], [1]), [2, 3, 4, 5])

    def test_little_number_of_two_bytes(self):
        item = number(size=2, order="little", low=0x01FE, high=0x0403)
        self.assertEqual(taken([item], []), list(range(256)))
        self.assertEqual(taken([item], [0xFD]), [2, 3])
        self.assertEqual(taken([item], [0xFE]), [1, 2, 3])
        self.assertEqual(taken([item], [0x03]), [2, 3, 4])
        self.assertEqual(taken([item], [0x04]), [2, 3])
        narrow = number(size=2, order="little", low=0x0102, high=0x0105)
        self.assertEqual(taken([narrow], []), [2, 3, 4, 5])
        self.assertEqual(taken([narrow], [5]), [1])
        around = number(size=2, order="little", low=254, high=257)
        self.assertEqual(taken([around], []), [0, 1, 254, 255])
        self.assertEqual(taken([around], [255]), [0])
        self.assertEqual(taken([around], [0]), [1])

    def test_numbers_that_are_used(self):
        items = [number(size=2, order="little", high=60), some("b", "n")]
        self.assertEqual(taken(items, []), list(range(61)))
        self.assertEqual(taken(items, [3]), [0])
        self.assertEqual(awaited(items, [3, 0]), ["b"])
        self.assertEqual(awaited(items, [3, 0, 9, 9]), ["b"])
        self.assertEqual(awaited(items, [3, 0, 9, 9, 9]), [None])
        items = [number(size=2, low=1, high=60), some("b", "n")]
        self.assertEqual(taken(items, []), [0])
        self.assertEqual(taken(items, [0]), list(range(1, 61)))
        self.assertEqual(awaited(items, [0, 1, 7]), [None])

    def test_all_numbers_of_two_bytes(self):
        for order in ("big", "little"):
            for low, high in ((0, 65535), (0, 0), (65535, 65535), (255, 256), (300, 300), (511, 1025), (65027, 65279),
                              (51207, 51459), (51455, 51456), (65280, 65280)):
                item = number(size=2, order=order, low=low, high=high)
                wanted = {tuple(value.to_bytes(2, order)) for value in range(low, high + 1)}
                for told in ([], ["n"]):
                    machine = Machine(shape(item), tell=told)
                    start = machine.start()[0][0]
                    found = {(first, second) for first in range(256) for state, _, _ in machine.step(start, first)
                             for second in range(256) if machine.step(state, second)}
                    self.assertEqual(found, wanted)

    def test_bytes(self):
        items = [some("b", 2), number(low=3, high=3)]
        self.assertEqual(taken(items, []), list(range(256)))
        self.assertEqual(awaited(items, [0]), ["b"])
        self.assertEqual(awaited(items, [0, 255]), ["n"])

    def test_text(self):
        items = [("text", "t", 7, 2), number(low=3, high=3)]
        self.assertEqual(taken(items, []), list(range(256)))
        self.assertEqual(taken(items, [0]), list(range(256)))
        self.assertEqual(taken(items, [0, 255]), [7])
        self.assertEqual(awaited(items, [7]), ["n"])
        self.assertEqual(awaited(items, [0, 7]), ["n"])
        self.assertEqual(awaited(items, [0, 8, 7]), ["n"])
        self.assertEqual(taken([("text", "t", 0, 0)], []), [0])

    def test_check(self):
        self.assertEqual(taken([("check", "c", 7)], []), [0])
        self.assertEqual(taken([some("b", 2), ("check", "c", 7)], [5, 6]), [4])
        self.assertEqual(taken([some("b", 2), ("check", "c", 16)], [255, 255]), [510 % 16])
        self.assertEqual(taken([some("b", 2), ("check", "c", 1)], [255, 3]), [0])
        items = [("repeat", "r", 3, [some(), ("check", "c", 16)])]
        self.assertEqual(taken(items, [5]), [5])
        self.assertEqual(taken(items, [5, 5, 3]), [13])
        self.assertEqual(taken(items, [5, 5, 3, 13, 9]), [35 % 16])

    def test_pad(self):
        for many in range(9):
            items = [some("b", many), ("pad", "p", 4, 9), number(low=3, high=3)]
            rest = -many % 4
            self.assertEqual(awaited(items, [1] * many + [9] * rest), ["n"])
            if rest:
                self.assertEqual(taken(items, [1] * many + [9] * (rest - 1)), [9])
                self.assertEqual(awaited(items, [1] * many), ["p"])
        self.assertEqual(awaited([("pad", "p", 16, 9)], []), [None])
        self.assertEqual(awaited([some(), ("pad", "p", 1, 9)], [1]), [None])
        self.assertEqual(awaited([some(), ("pad", "p", 2, 9)], [1]), ["p"])

    def test_pads_of_several_multiples(self):
        items = [some("a", 3), ("pad", "p", 2, 1), some("b"), ("pad", "q", 8, 2), ("pad", "s", 4, 3), some("c")]
        self.assertEqual(awaited(items, [0] * 3), ["p"])
        self.assertEqual(awaited(items, [0] * 3 + [1]), ["b"])
        self.assertEqual(awaited(items, [0] * 3 + [1, 0]), ["q"])
        self.assertEqual(awaited(items, [0] * 3 + [1, 0, 2, 2, 2]), ["c"])

    def test_items_that_need_no_byte(self):
        self.assertEqual(awaited([some("a", 0), ("repeat", "r", 0, [some("b")]), ("pad", "p", 4, 0)], []), [None])
        self.assertEqual(awaited([number(), some("a", "n"), some("c")], [0]), ["c"])
        self.assertEqual(awaited([number(), ("repeat", "r", "n", [some("b")]), some("c")], [0]), ["c"])
        self.assertEqual(awaited([number(), ("switch", "s", "n", [(0, []), (1, [some()])]), some("c")], [0]), ["c"])
        self.assertEqual(awaited([("either", "e", [[some("a")], []]), some("c")], []), ["a", "c"])

    def test_repeat(self):
        items = [("repeat", "r", 2, [some("a"), ("repeat", "q", 2, [some("b")])]), some("c")]
        seen = [awaited(items, [0] * many) for many in range(8)]
        self.assertEqual(seen, [["a"], ["b"], ["b"], ["a"], ["b"], ["b"], ["c"], [None]])

    def test_numbers_of_rounds(self):
        items = [("repeat", "r", 3, [number(high=3), some("b", "n")]), some("c")]
        names = [awaited(items, [2, 0, 0, 0, 1, 9][:many]) for many in range(7)]
        self.assertEqual(names, [["n"], ["b"], ["b"], ["n"], ["n"], ["b"], ["c"]])

    def test_tag_without_a_case(self):
        items = [number(), ("switch", "s", "n", [(2, [some("a")]), (4, []), (300, [some("b")])]), some("c")]
        self.assertEqual(taken(items, []), [2, 4])
        self.assertEqual(awaited(items, [2]), ["a"])
        self.assertEqual(awaited(items, [4]), ["c"])
        self.assertEqual(taken([number(), ("switch", "s", "n", [(300, [])])], []), [])

    def test_tag_without_a_case_behind_other_items(self):
        items = [number(), some("a", 2), ("switch", "s", "n", [(2, [])])]
        self.assertEqual(taken(items, []), list(range(10)))
        self.assertEqual(taken(items, [3, 0]), [])
        self.assertEqual(taken(items, [2, 0]), list(range(256)))

    def test_tag_without_a_case_on_one_way(self):
        items = [number(), ("either", "e", [[some("a")], [("switch", "s", "n", [(2, [])]), some("b")]])]
        self.assertEqual(awaited(items, [2]), ["a", "b"])
        self.assertEqual(awaited(items, [3]), ["a"])


class EntriesTest(unittest.TestCase):
    def test_example(self):
        machine = Machine(shape(("either", "e", [[some()], [number(low=7, high=9)]])))
        self.assertEqual([choices for state, choices in machine.start()], [(0,), (1,)])
        self.assertEqual([machine.waits(state) for state, choices in machine.start()], ["b", "n"])

    def test_form(self):
        made = shape(number(), some())
        machine = Machine(made)
        self.assertIs(machine.shape, made)
        start = machine.start()
        self.assertIs(type(start), list)
        self.assertEqual(len(start), 1)
        state, choices = start[0]
        self.assertEqual(choices, ())
        entries = machine.step(state, 3)
        self.assertIs(type(entries), list)
        self.assertIs(type(entries[0]), tuple)
        self.assertEqual(entries[0][1:], ((), ()))
        self.assertEqual(machine.step(state, 10), [])

    def test_choices_ascend(self):
        inner = ("either", "f", [[some("a")], [], [some("c")]])
        items = [("either", "e", [[some("d")], [inner, some("g")], [some("h")], [("pad", "p", 2, 0)]]),
                 ("either", "k", [[], [some("m")]]), some("z")]
        machine = Machine(shape(*items))
        self.assertEqual([choices for state, choices in machine.start()],
                         [(0,), (1, 0), (1, 1), (1, 2), (2,), (3, 0), (3, 1)])
        self.assertEqual([machine.waits(state) for state, choices in machine.start()],
                         ["d", "a", "g", "c", "h", "z", "m"])
        entries = machine.step(machine.start()[0][0], 5)
        self.assertEqual([choices for state, choices, told in entries], [(0,), (1,)])
        self.assertEqual([machine.waits(state) for state, choices, told in entries], ["z", "m"])

    def test_choices_of_rounds(self):
        machine = Machine(shape(("repeat", "r", 2, [("either", "e", [[some("a")], [some("b")]])]), some("z")))
        entries = machine.step(machine.start()[0][0], 5)
        self.assertEqual([(machine.waits(state), choices) for state, choices, told in entries], [("a", (0,)), ("b", (1,))])
        entries = machine.step(entries[1][0], 5)
        self.assertEqual([(machine.waits(state), choices) for state, choices, told in entries], [("z", ())])

    def test_entries_of_one_state(self):
        machine = Machine(shape(some("a"), ("either", "e", [[], [some("b", 0), some("c")]])))
        entries = machine.step(machine.start()[0][0], 0)
        self.assertEqual([machine.waits(entry[0]) for entry in entries], [None, "c"])

    def test_done(self):
        machine = Machine(shape(some()))
        state = machine.start()[0][0]
        self.assertIs(machine.is_done(state), False)
        self.assertEqual(machine.waits(state), "b")
        done = machine.step(state, 0)[0][0]
        self.assertIs(machine.is_done(done), True)
        self.assertIsNone(machine.waits(done))
        self.assertEqual([machine.step(done, byte) for byte in range(256)], [[]] * 256)
        self.assertEqual(sum(many for least, greatest, many in machine.classes(done)), 256)

    def test_told(self):
        items = [number("m"), number(size=2, order="little", high=600), ("either", "e", [[some()], []])]
        machine = Machine(shape(*items), tell=["n"])
        state = machine.start()[0][0]
        entries = machine.step(state, 4)
        self.assertEqual([entry[1:] for entry in entries], [((), ())])
        entries = machine.step(entries[0][0], 5)
        self.assertEqual([entry[1:] for entry in entries], [((), ())])
        entries = machine.step(entries[0][0], 1)
        self.assertEqual([entry[1:] for entry in entries], [((0,), (("n", 261),)), ((1,), (("n", 261),))])

    def test_told_all(self):
        machine = Machine(shape(number("m"), number(high=3), some(length="n")), tell=["n", "m"])
        entries = machine.step(machine.start()[0][0], 4)
        self.assertEqual(entries[0][1:], ((), (("m", 4),)))
        entries = machine.step(entries[0][0], 0)
        self.assertEqual(entries[0][1:], ((), (("n", 0),)))
        self.assertTrue(machine.is_done(entries[0][0]))

    def test_told_tag(self):
        machine = Machine(shape(number(), some(), ("switch", "s", "n", [(3, [])])), tell=["n"])
        start = machine.start()[0][0]
        self.assertEqual([machine.step(start, byte)[0][2] for byte in range(10)], [(("n", byte),) for byte in range(10)])

    def test_numbers_that_are_not_told(self):
        machine = Machine(shape(number(), ("repeat", "r", 1, [number("m")])), tell=["n"])
        entries = machine.step(machine.start()[0][0], 1)
        self.assertEqual(entries[0][2], (("n", 1),))
        self.assertEqual(machine.step(entries[0][0], 1)[0][2], ())

    def test_lists_that_are_returned(self):
        machine = Machine(shape(number(), some()))
        start = machine.start()[0][0]
        for ask in (machine.start, lambda: machine.step(start, 3), lambda: machine.classes(start),
                    lambda: joint_classes([(machine, start)])):
            before = list(ask())
            ask().append(None)
            ask().clear()
            self.assertEqual(ask(), before)

    def test_names_to_tell_are_copied(self):
        tell = ["n"]
        machine = Machine(shape(number()), tell=tell)
        tell.clear()
        self.assertEqual(machine.step(machine.start()[0][0], 5)[0][2], (("n", 5),))


class ClassesTest(unittest.TestCase):
    def check_sets(self, waiting, sets):
        """Compares sets with the steps of all bytes: all but which bytes with one step stand together."""
        def steps(byte):
            return repr([machine.step(state, byte) for machine, state in waiting])

        self.assertEqual(sets, sorted(sets))
        self.assertEqual(len({least for least, _, _ in sets}), len(sets))
        self.assertEqual(len({greatest for _, greatest, _ in sets}), len(sets))
        wanted = {}
        for byte in range(256):
            wanted[steps(byte)] = wanted.get(steps(byte), 0) + 1
        found = {}
        for least, greatest, many in sets:
            self.assertEqual(steps(least), steps(greatest))
            self.assertTrue(1 <= many <= greatest - least + 1)
            found[steps(least)] = found.get(steps(least), 0) + many
        self.assertEqual(found, wanted)

    def test_sets(self):
        items = [number("m", 2, "little", 5, 700), number(high=3), ("text", "t", 9, 3), some("b", "n"), ("check", "c", 5),
                 ("pad", "p", 4, 1), number("o", 2, high=9), ("switch", "s", "o", [(4, []), (7, [])])]
        for tell in ((), ("m",), ("o", "n")):
            machine = Machine(shape(*items), tell=tell)
            for state in dict.fromkeys(states_behind(machine, [5, 1, 2][:many])[0] for many in range(4)):
                self.check_sets([(machine, state)], machine.classes(state))
            behind = states_behind(machine, [5, 1, 2, 9, 4, 4, 0])
            while behind:
                self.check_sets([(machine, behind[0])], machine.classes(behind[0]))
                behind = [entry[0] for byte in range(256) for entry in machine.step(behind[0], byte)][:1]

    def test_sets_of_tags_that_are_told(self):
        machine = Machine(shape(number(), some(), ("switch", "s", "n", [(3, []), (4, [])])), tell=["n"])
        start = machine.start()[0][0]
        self.check_sets([(machine, start)], machine.classes(start))
        self.assertEqual([one for one in machine.classes(start) if one[0] < 10], [(byte, byte, 1) for byte in range(10)])

    def test_plain_sets(self):
        machine = Machine(shape(some(), number(low=5, high=7), ("text", "t", 9, 3)))
        self.assertEqual(machine.classes(machine.start()[0][0]), [(0, 255, 256)])
        machine = Machine(shape(number(low=5, high=5)))
        self.check_sets([(machine, machine.start()[0][0])], machine.classes(machine.start()[0][0]))

    def test_sets_of_sums(self):
        machine = Machine(shape(some("b", 2), ("check", "c", 3)))
        start = machine.start()[0][0]
        self.assertEqual(machine.classes(start), [(0, 255, 86), (1, 253, 85), (2, 254, 85)])
        self.check_sets([(machine, start)], machine.classes(start))

    def test_joint_sets(self):
        one = Machine(shape(("either", "e", [[some("a"), ("check", "c", 3)], [number(low=4, high=90)], [("text", "t", 100, 3)]])))
        other = Machine(shape(number(size=2, order="little", high=300)), tell=["n"])
        waiting = [(one, state) for state, choices in one.start()]
        self.check_sets(waiting, joint_classes(waiting))
        waiting.append((other, other.start()[0][0]))
        self.check_sets(waiting, joint_classes(waiting))
        waiting = [(one, states_behind(one, [4])[1]), (one, states_behind(one, [4])[0])]
        self.check_sets(waiting, joint_classes(waiting))

    def test_joint_sets_of_one_state(self):
        machine = Machine(shape(number(low=5, high=7)))
        start = machine.start()[0][0]
        self.assertEqual(joint_classes([(machine, start)]), machine.classes(start))

    def test_argument_stays(self):
        machine = Machine(shape(number(low=5, high=7)))
        waiting = [(machine, machine.start()[0][0])] * 2
        before = list(waiting)
        joint_classes(waiting)
        self.assertEqual(waiting, before)

    def test_sets_of_states_at_random(self):
        for seed in range(60):
            made = shape_at_random(seed)
            machine = Machine(made, tell=made.outer_numbers()[:1])
            data = file_at_random(machine, seed, 12)
            for many in range(0, len(data), 3):
                states = states_behind(machine, data[:many])[:3]
                for state in states:
                    self.check_sets([(machine, state)], machine.classes(state))
                if states:
                    waiting = [(machine, state) for state in states]
                    self.check_sets(waiting, joint_classes(waiting))


class WaysAtRandomTest(unittest.TestCase):
    def test_ways(self):
        for seed in range(150):
            made = shape_at_random(seed)
            machine = Machine(made)
            data = file_at_random(machine, seed, 30)
            level = machine.start()
            for many in range(len(data) + 1):
                if many:
                    level = [(entry[0], path + entry[1]) for state, path in level
                             for entry in machine.step(state, data[many - 1])]
                ways = Ways(made.parts, data[:many])
                wanted = [(way[0], way[1][1]) for way in ways.waiting] + [(path, None) for path, _ in ways.done]
                self.assertEqual([(path, machine.waits(state)) for state, path in level], sorted(wanted, key=lambda row: row[0]))


if __name__ == "__main__":
    unittest.main()
