"""States and first files: points 31 to 35."""

import itertools
import unittest

from byteshape.errors import TooMany
from byteshape.machine import Machine
from byteshape.reading import is_read
from byteshape.search import LIMIT, Search, explore, first_read
from made import number, shape, some
from shapes_at_random import shape_at_random


def found_plainly(machine, most):
    """The states in the order of point 33 with their first files, byte by byte; None if there are more."""
    files = {}
    for state, _ in machine.start():
        files.setdefault(state, [])
    waiting = [[]]
    while waiting:
        data = waiting.pop(0)
        group = [state for state in files if files[state] == data]
        for byte in range(256):
            for state in group:
                for entry in machine.step(state, byte):
                    files.setdefault(entry[0], data + [byte])
            if data + [byte] in list(files.values())[-1:] and data + [byte] not in waiting:
                waiting.append(data + [byte])
        if len(files) > most:
            return None
    return files


class ExploreTest(unittest.TestCase):
    def names(self, made):
        machine = Machine(made)
        search = explore(made)
        return [(machine.waits(state), search.file_to(state)) for state in search.states]

    def test_example(self):
        made = shape(number(low=2), some("b", "n"))
        self.assertEqual(first_read(made), [2, 0, 0])

    def test_limit(self):
        self.assertEqual(LIMIT, 2000)

    def test_order(self):
        made = shape(number(low=2, high=4), some("b", "n"))
        self.assertEqual(self.names(made), [("n", []), ("b", [2]), ("b", [3]), ("b", [4]), ("b", [2, 0]), (None, [2, 0, 0])])

    def test_states_with_one_first_file(self):
        made = shape(("either", "e", [[some("a")], [number("b", low=3), some("c")], [some("d", 2)]]),
                     ("either", "f", [[number("g", low=1)], [some("h")]]))
        self.assertEqual(self.names(made), [
            ("a", []), ("b", []), ("d", []), ("g", [0]), ("h", [0]), ("d", [0]), ("c", [3]),
            (None, [0, 0])])

    def test_states_of_the_beginning(self):
        made = shape(("either", "e", [[some("a")], [], [some("b")]]), ("either", "f", [[some("c")], []]))
        self.assertEqual(self.names(made), [("a", []), ("c", []), (None, []), ("b", [])])

    def test_one_state_in_several_entries(self):
        made = shape(some("a"), ("repeat", "r", 2, [("either", "e", [[some("b")], [some("c")]])]))
        self.assertEqual(self.names(made), [("a", []), ("b", [0]), ("c", [0]), ("b", [0, 0]), ("c", [0, 0]), (None, [0, 0, 0])])

    def test_bytes_before_states(self):
        made = shape(("either", "e", [[number("a", low=5), some("b")], [number("c", low=1, high=1), some("d")]]))
        self.assertEqual(self.names(made), [("a", []), ("c", []), ("d", [1]), ("b", [5]), (None, [1, 0])])

    def test_states_that_need_not_be_read(self):
        made = shape(number(), some("a"), ("switch", "s", "n", [(10, [])]))
        self.assertEqual(self.names(made), [("n", []), ("a", [0])])

    def test_answers(self):
        search = explore(shape(number(low=2, high=4), some("b", "n")))
        self.assertIs(type(search), Search)
        self.assertIs(type(search.states), list)
        last = search.states[-1]
        search.file_to(last).append(5)
        self.assertEqual(search.file_to(last), [2, 0, 0])
        search.states.clear()
        self.assertEqual(search.file_to(last), [2, 0, 0])
        self.assertEqual(len(explore(shape(number(low=2, high=4), some("b", "n"))).states), 6)

    def test_shapes_at_random(self):
        compared = 0
        for seed in range(120):
            made = shape_at_random(seed)
            files = found_plainly(Machine(made), 80)
            if files is None:
                with self.assertRaises(TooMany):
                    explore(made, limit=80)
                continue
            compared += 1
            search = explore(made, limit=len(files))
            self.assertEqual(search.states, list(files))
            self.assertEqual([search.file_to(state) for state in search.states], list(files.values()))
            if len(files) > 1:
                with self.assertRaises(TooMany) as caught:
                    explore(made, limit=len(files) - 1)
                self.assertEqual(caught.exception.limit, len(files) - 1)
        self.assertGreater(compared, 50)

    def test_first_files_by_trying_all(self):
        made = shape(("either", "e", [[number("a", 2, "little", 3, 515), ("check", "c", 3)], [some("b"), ("text", "t", 2, 1)]]))
        machine = Machine(made)
        files = {}
        for many in range(4):
            for data in itertools.product(range(7), repeat=many):
                states = [state for state, _ in machine.start()]
                for byte in data:
                    states = [entry[0] for state in states for entry in machine.step(state, byte)]
                for state in states:
                    files.setdefault(state, list(data))
        search = explore(made)
        self.assertEqual({state: search.file_to(state) for state in search.states}, files)


class LimitTest(unittest.TestCase):
    def test_exactly_the_limit(self):
        made = shape(number(low=2, high=4), some("b", "n"))
        self.assertEqual(len(explore(made, limit=6).states), 6)
        self.assertEqual(first_read(made, limit=6), [2, 0, 0])
        for limit in range(1, 6):
            for ask in (explore, first_read):
                with self.assertRaises(TooMany) as caught:
                    ask(made, limit=limit)
                self.assertEqual(caught.exception.limit, limit)

    def test_one_state(self):
        self.assertEqual(len(explore(shape(some(length=0)), limit=1).states), 1)
        self.assertEqual(first_read(shape(some(length=0)), limit=1), [])

    def test_states_of_the_beginning_count(self):
        made = shape(("either", "e", [[some("a")], [some("b")], [some("c")]]))
        with self.assertRaises(TooMany):
            explore(made, limit=2)

    def test_usual_limit(self):
        blocks = [some("b" + str(k), 64) for k in range(12)]
        made = shape(("repeat", "r", 2, blocks), *[some("a" + str(k), 64) for k in range(7)], some("x", 15))
        self.assertEqual(len(explore(made).states), 2000)
        self.assertEqual(first_read(made), [0] * 1999)
        made = made.with_item("x", some("x", 16))
        for ask in (explore, first_read):
            with self.assertRaises(TooMany) as caught:
                ask(made)
            self.assertEqual(caught.exception.limit, 2000)
        self.assertEqual(len(explore(made, limit=2001).states), 2001)

    def test_all_states_count_whatever_was_found(self):
        made = shape(("either", "e", [[], [some("b", 5)]]))
        with self.assertRaises(TooMany):
            first_read(made, limit=5)
        self.assertEqual(first_read(made, limit=6), [])


class FirstReadTest(unittest.TestCase):
    def test_shorter_files_come_first(self):
        made = shape(number(high=3), ("switch", "s", "n", [(0, [some("a", 3)]), (1, [some("b", 2)]), (2, [some("c")]), (3, [some("d")])]))
        self.assertEqual(first_read(made), [2, 0])

    def test_smaller_bytes_come_first(self):
        made = shape(("either", "e", [[number("a", low=4), number("b", low=1)], [number("c", low=3), number("d", low=7)]]))
        self.assertEqual(first_read(made), [3, 7])
        made = shape(("text", "t", 9, 3), ("pad", "p", 4, 5))
        self.assertEqual(first_read(made), [0, 0, 0, 9])
        self.assertEqual(first_read(shape(number(size=2, order="little", low=300, high=600))), [0, 2])

    def test_sums(self):
        made = shape(number(low=5, high=9), ("check", "c", 7), ("pad", "p", 4, 200))
        self.assertEqual(first_read(made), [5, 5, 200, 200])

    def test_nothing_is_read(self):
        self.assertIsNone(first_read(shape(number(), ("switch", "s", "n", [(10, []), (300, [some()])]))))
        self.assertIsNone(first_read(shape(number(), some("a"), ("switch", "s", "n", [(10, [])]))))

    def test_empty_file(self):
        self.assertEqual(first_read(shape(("either", "e", [[some()], []]))), [])

    def test_files_at_random(self):
        for seed in range(80):
            made = shape_at_random(seed)
            try:
                data = first_read(made, limit=200)
            except TooMany:
                continue
            if data is None:
                continue
            self.assertTrue(is_read(made, data))
            if len(data) <= 2:
                before = [list(one) for many in range(len(data)) for one in itertools.product(range(256), repeat=many)]
                before += [one for one in ([a] for a in range(256)) if len(data) == 1 and one < data]
                self.assertFalse(any(is_read(made, one) for one in before))


if __name__ == "__main__":
    unittest.main()
