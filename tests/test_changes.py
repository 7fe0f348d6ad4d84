"""Changes between contents: points 96 to 100."""

import copy
import unittest

from brute import some_tried
from byteshape.changes import Change, changed, changes, value_at
from byteshape.machine import Machine
from byteshape.reading import is_read, read, readings
from byteshape.shapes import Shape
from made import number, shape, some
from shapes_at_random import file_at_random, shape_at_random


def rows_of(found):
    """The fields of some changes."""
    return [(one.spot, one.before, one.after) for one in found]


def spots_plainly(made, items, content, spot=()):
    """The spots of a content with what stands there, in the order of the items, and the kind: a list of tuples."""
    found = []
    for name, value in content:
        kind = made.item(name)[0]
        here = spot + (name,)
        found.append((here, kind, value))
        if kind == "repeat":
            for number_of, round_content in enumerate(value):
                found.append((here + (number_of,), "round", round_content))
                found.extend(spots_plainly(made, items, round_content, here + (number_of,)))
        if kind == "either":
            found.append((here + (value[0],), "block", value[1]))
            found.extend(spots_plainly(made, items, value[1], here + (value[0],)))
        if kind == "switch":
            found.extend(spots_plainly(made, items, value, here))
    return found


def is_within(spot, others):
    """Whether a spot stands within one of some others."""
    return any(len(one) < len(spot) and spot[:len(one)] == one for one in others)


def changes_plainly(made, one, other):
    """The changes between two contents by their spots."""
    ones = {spot: (kind, value) for spot, kind, value in spots_plainly(made, made.parts, one)}
    others = {spot: (kind, value) for spot, kind, value in spots_plainly(made, made.parts, other)}
    found = {}
    for spot, (kind, before) in ones.items():
        after = others.get(spot, (kind, None))[1]
        leaf = kind in ("number", "bytes", "text") and spot in others and before != after
        choice = kind == "either" and spot in others and before[0] != after[0]
        case = kind == "switch" and spot in others and [name for name, _ in before] != [name for name, _ in after]
        if leaf or choice or case or kind == "round" and spot not in others:
            found[spot] = (before, after)
    for spot, (kind, after) in others.items():
        if kind == "round" and spot not in ones:
            found[spot] = (None, after)
    return {spot: row for spot, row in found.items() if not is_within(spot, found)}


class ChangeTest(unittest.TestCase):
    def test_class(self):
        before, after, spot = (0, [("b", [1, 2])]), [("b", [3])], ["e", 0]
        made = Change(spot, before, after)
        spot.append(5)
        before[1][0][1].append(9)
        before[1].append(("c", 3))
        after[0][1].append(9)
        self.assertEqual((made.spot, made.before, made.after), (("e", 0), (0, [("b", [1, 2])]), [("b", [3])]))
        made = Change((), 5, None)
        self.assertEqual((made.spot, made.before, made.after), ((), 5, None))


class ChangesTest(unittest.TestCase):
    def check(self, made, one, other, wanted):
        contents = [read(made, file).content for file in (one, other)]
        given = copy.deepcopy(contents)
        found = changes(made, *contents)
        self.assertEqual(rows_of(found), wanted, (made.parts, one, other))
        self.assertEqual(changed(contents[0], found), contents[1])
        back = changes(made, contents[1], contents[0])
        self.assertEqual(changed(contents[1], back), contents[0])
        self.assertEqual(contents, given)
        for content in contents:
            self.assertEqual(changes(made, content, copy.deepcopy(content)), [])

    def test_example(self):
        made = Shape([("number", "n", 1, "big", 0, 3), ("repeat", "r", "n", [("bytes", "b", 1)])])
        one, other = read(made, [1, 5]).content, read(made, [2, 5, 6]).content
        found = changes(made, one, other)
        self.assertIs(type(found[0]), Change)
        self.assertEqual(rows_of(found), [(("n",), 1, 2), (("r", 1), None, [("b", [6])])])
        self.assertEqual(value_at(other, ("r", 0, "b")), [5])

    def test_outermost_items(self):
        made = shape(number(), some("b", "n"), ("text", "t", 0, 3), number("m", 2, "little", 0, 700), ("check", "c", 3), ("pad", "p", 4, 0))
        self.check(made, [1, 7, 5, 0, 1, 2, 1, 0], [1, 7, 5, 0, 1, 2, 1, 0], [])
        self.check(made, [1, 7, 5, 0, 1, 2, 1, 0], [1, 8, 5, 0, 1, 2, 2, 0], [(("b",), [7], [8])])
        self.check(made, [1, 7, 5, 0, 1, 2, 1, 0], [0, 9, 9, 0, 1, 2, 0, 0], [(("n",), 1, 0), (("b",), [7], []), (("t",), [5], [9, 9])])
        self.check(made, [1, 7, 0, 1, 2, 2, 0, 0], [1, 7, 0, 1, 1, 1, 0, 0], [(("m",), 513, 257)])

    def test_rounds(self):
        made = shape(number(high=3), ("repeat", "r", "n", [number("m"), ("text", "t", 0, 3)]))
        self.check(made, [2, 1, 0, 2, 5, 0], [2, 1, 6, 0, 3, 0],
                   [(("r", 0, "t"), [], [6]), (("r", 1, "m"), 2, 3), (("r", 1, "t"), [5], [])])
        self.check(made, [0], [2, 1, 0, 2, 5, 0], [(("n",), 0, 2), (("r", 0), None, [("m", 1), ("t", [])]), (("r", 1), None, [("m", 2), ("t", [5])])])
        self.check(made, [3, 1, 0, 2, 0, 3, 0], [1, 4, 0], [
            (("n",), 3, 1), (("r", 0, "m"), 1, 4), (("r", 1), [("m", 2), ("t", [])], None), (("r", 2), [("m", 3), ("t", [])], None)])
        self.check(made, [1, 1, 0], [0], [(("n",), 1, 0), (("r", 0), [("m", 1), ("t", [])], None)])

    def test_choices(self):
        made = shape(("either", "e", [[number("a", high=3), some("x")], [number("b", low=4, high=6), ("text", "t", 0, 2)], [number("d", low=7)]]))
        self.check(made, [1, 5], [2, 5], [(("e", 0, "a"), 1, 2)])
        self.check(made, [1, 5], [3, 6], [(("e", 0, "a"), 1, 3), (("e", 0, "x"), [5], [6])])
        self.check(made, [5, 1, 0], [5, 0], [(("e", 1, "t"), [1], [])])
        self.check(made, [1, 5], [5, 0], [(("e",), (0, [("a", 1), ("x", [5])]), (1, [("b", 5), ("t", [])]))])
        self.check(made, [5, 0], [9], [(("e",), (1, [("b", 5), ("t", [])]), (2, [("d", 9)]))])

    def test_switches(self):
        made = shape(number(high=4), ("switch", "s", "n", [(0, []), (1, [some("a"), ("text", "t", 0, 2)]), (2, [some("b")]), (3, [("check", "c", 5)]), (4, [])]))
        self.check(made, [1, 5, 0], [1, 6, 7, 0], [(("s", "a"), [5], [6]), (("s", "t"), [], [7])])
        self.check(made, [1, 5, 0], [2, 5], [(("n",), 1, 2), (("s",), [("a", [5]), ("t", [])], [("b", [5])])])
        self.check(made, [2, 5], [0], [(("n",), 2, 0), (("s",), [("b", [5])], [])])
        self.check(made, [0], [2, 5], [(("n",), 0, 2), (("s",), [], [("b", [5])])])
        # Cases without values have the same names.
        self.check(made, [0], [3, 3], [(("n",), 0, 3)])
        self.check(made, [3, 3], [4], [(("n",), 3, 4)])

    def test_blocks_within_blocks(self):
        inner = ("switch", "s", "m", [(0, []), (1, [some("x", 2)])])
        made = shape(number(high=3), ("repeat", "r", "n", [("either", "e", [[number("m", high=1), inner], [number("k", low=5), some("y")]])]))
        self.check(made, [2, 1, 3, 4, 0], [2, 1, 3, 5, 0], [(("r", 0, "e", 0, "s", "x"), [3, 4], [3, 5])])
        self.check(made, [2, 1, 3, 4, 0], [2, 0, 1, 3, 4], [
            (("r", 0, "e", 0, "m"), 1, 0), (("r", 0, "e", 0, "s"), [("x", [3, 4])], []),
            (("r", 1, "e", 0, "m"), 0, 1), (("r", 1, "e", 0, "s"), [], [("x", [3, 4])])])
        self.check(made, [2, 0, 0], [1, 6, 7], [
            (("n",), 2, 1), (("r", 0, "e"), (0, [("m", 0), ("s", [])]), (1, [("k", 6), ("y", [7])])),
            (("r", 1), [("e", (0, [("m", 0), ("s", [])]))], None)])

    def test_rounds_within_blocks(self):
        inner = ("either", "e", [[number("m", high=1), ("repeat", "q", "m", [some("x")])], [number("k", low=5)]])
        made = shape(number(high=3), ("switch", "s", "n", [(2, [inner]), (3, [some("y")])]))
        self.check(made, [2, 1, 7], [2, 1, 8], [(("s", "e", 0, "q", 0, "x"), [7], [8])])
        self.check(made, [2, 1, 7], [2, 0], [(("s", "e", 0, "m"), 1, 0), (("s", "e", 0, "q", 0), [("x", [7])], None)])
        self.check(made, [2, 1, 7], [2, 9], [(("s", "e"), (0, [("m", 1), ("q", [[("x", [7])]])]), (1, [("k", 9)]))])

    def test_all_kinds_in_the_order_of_the_items(self):
        made = shape(some("z"), number("n", high=2), ("repeat", "r", "n", [some("y")]), ("either", "e", [[some("x")], [some("w", 2)]]), some("a"))
        one, other = readings(made, [1, 2, 3, 4, 5, 6])[0].content, readings(made, [7, 1, 3, 9, 8])[0].content
        self.assertEqual(rows_of(changes(made, one, other)), [
            (("z",), [1], [7]), (("n",), 2, 1), (("r", 1), [("y", [4])], None), (("e", 0, "x"), [5], [9]), (("a",), [6], [8])])

    def test_other_choices_of_one_file(self):
        made = shape(("either", "e", [[some("a")], [some("b")]]))
        one, other = [reading.content for reading in readings(made, [5])]
        self.assertEqual(rows_of(changes(made, one, other)), [(("e",), (0, [("a", [5])]), (1, [("b", [5])]))])

    def test_shapes_at_random(self):
        met = {}
        for made, contents in contents_at_random():
            for one in contents:
                for other in contents:
                    found = changes(made, one, other)
                    wanted = changes_plainly(made, one, other)
                    self.assertEqual({change.spot: (change.before, change.after) for change in found}, wanted, made.parts)
                    self.assertEqual(len(found), len(wanted))
                    self.assertEqual(changed(one, found), other)
                    for change in found:
                        self.assertEqual(value_at(one, change.spot), change.before)
                        self.assertEqual(value_at(other, change.spot), change.after)
                        kind = "round" if isinstance(change.spot[-1], int) else made.item(change.spot[-1])[0]
                        met[kind] = met.get(kind, 0) + 1
                    order = [spot for spot, _, _ in spots_plainly(made, made.parts, one)]
                    shared = [change.spot for change in found if change.spot in order]
                    self.assertEqual(shared, sorted(shared, key=order.index))
        self.assertEqual(sorted(met), ["bytes", "either", "number", "round", "switch", "text"])
        self.assertGreater(min(met.values()), 20)


SWITCHES = shape(
    number("n", high=3), ("repeat", "r", "n", [number("m", high=2), ("switch", "s", "m", [(0, []), (1, [some("a")]), (2, [("text", "t", 0, 2), some("b")])])]),
    ("switch", "u", "n", [(0, [("either", "e", [[some("c")], [some("d", 2)]])]), (1, []), (2, [number("o")]), (3, [("pad", "p", 2, 0)])]))


def contents_at_random():
    """Shapes with some contents of their files, always the same."""
    found = []
    for made, tried in some_tried():
        read_files = [one.file for one in tried.values() if one.readings]
        found.append((made, [reading.content for file in read_files[:200:12] for reading in readings(made, file)]))
    for seed in range(150):
        made = shape_at_random(seed) if seed % 5 else SWITCHES
        machine = Machine(made)
        files = [file_at_random(machine, seed * 50 + k, 40) for k in range(8)]
        found.append((made, [read(made, file).content for file in files if is_read(made, file)]))
    return found


class ChangedTest(unittest.TestCase):
    def test_no_changes(self):
        content = [("n", 1), ("r", [[("b", [5])]])]
        found = changed(content, [])
        self.assertEqual(found, content)
        found[1][1][0][0][1].append(9)
        found.append(("x", 1))
        self.assertEqual(content, [("n", 1), ("r", [[("b", [5])]])])

    def test_rounds(self):
        content = [("r", [[("b", [1])], [("b", [2])], [("b", [3])]])]
        self.assertEqual(changed(content, [Change(("r", 1), [("b", [2])], None)]), [("r", [[("b", [1])]])])
        self.assertEqual(changed(content, [Change(("r", 1), None, None), Change(("r", 2), None, None)]), [("r", [[("b", [1])]])])
        self.assertEqual(changed(content, [Change(("r", 0), None, None)]), [("r", [])])
        self.assertEqual(changed(content, [Change(("r", 3), None, [("b", [4])])])[0][1][3:], [[("b", [4])]])
        self.assertEqual(changed(content, [Change(("r", 3), None, [("b", [4])]), Change(("r", 4), None, [("b", [])])])[0][1][3:], [[("b", [4])], [("b", [])]])
        self.assertEqual(changed(content, [Change(("r", 1), None, [("b", [9])])])[0][1], [[("b", [1])], [("b", [9])], [("b", [3])]])
        self.assertEqual(changed([("r", [])], [Change(("r", 0), None, [])]), [("r", [[]])])

    def test_one_after_another(self):
        content = [("n", 1), ("e", (0, [("b", [5])]))]
        found = changed(content, [Change(("n",), 1, 2), Change(("n",), 2, 3), Change(("e",), None, (1, [("c", [7])])), Change(("e", 1, "c"), [7], [8])])
        self.assertEqual(found, [("n", 3), ("e", (1, [("c", [8])]))])
        self.assertEqual(content, [("n", 1), ("e", (0, [("b", [5])]))])

    def test_copies(self):
        after = [("b", [4])]
        change = Change(("r", 0), None, after)
        content, made = [("r", [])], [change]
        found = changed(content, made)
        found[0][1][0][0][1].append(9)
        found[0][1].append([])
        self.assertEqual((content, change.after, len(made)), ([("r", [])], [("b", [4])], 1))
        self.assertEqual(changed(content, made), [("r", [[("b", [4])]])])

    def test_changes_keep_copies(self):
        made = shape(number(high=2), ("repeat", "r", "n", [some("b")]), ("either", "e", [[some("x")], [some("y", 2)]]))
        one, other = read(made, [0, 5]).content, read(made, [2, 5, 6, 7, 8]).content
        found = changes(made, one, other)
        told = rows_of(copy.deepcopy(found))
        for content in (one, other):
            content[1][1].clear()
            content[2][1][1].clear()
            content.clear()
        self.assertEqual(rows_of(found), told)


class ValueAtTest(unittest.TestCase):
    MADE = shape(number(high=3), some("b", "n"), ("text", "t", 0, 3), ("repeat", "r", "n", [some("x"), ("repeat", "q", 2, [("check", "c", 3)])]),
                 ("either", "e", [[], [number("k"), ("text", "u", 0, 2)]]), ("switch", "s", "n", [(2, [some("y"), ("either", "f", [[some("z")], []])]), (1, [])]))
    CONTENT = [("n", 2), ("b", [5, 6]), ("t", [7]), ("r", [[("x", [8]), ("q", [[], []])], [("x", [9]), ("q", [[], []])]]),
               ("e", (1, [("k", 4), ("u", [])])), ("s", [("y", [3]), ("f", (0, [("z", [1])]))])]

    def test_every_spot(self):
        self.assertEqual(value_at(self.CONTENT, ()), self.CONTENT)
        rows = spots_plainly(self.MADE, self.MADE.parts, self.CONTENT)
        self.assertEqual(len(rows), 23)
        for spot, _, value in rows:
            self.assertEqual(value_at(self.CONTENT, spot), value, spot)

    def test_no_such_spot(self):
        wrong = [("z",), ("x",), ("k",), ("y",), ("q",), ("c",), ("", ), ("n", "n"), ("n", 0), ("b", 0), ("b", 1), ("b", "b"), ("b", 2), ("t", 0), ("t", "t"),
                 ("t", 0, "x"), ("r", 2), ("r", -1), ("r", "x"), ("r", 0, "y"), ("r", 0, 0), ("r", 0, "x", 0), ("r", 0, "q", 2), ("r", 0, "q", 0, "c"),
                 ("r", 0, "q", 0, 0), ("r", 2, "x"), ("e", 0), ("e", 2), ("e", "k"), ("e", 1, "z"), ("e", 1, 0), ("e", 1, "u", 0), ("e", 0, "k"), ("s", 0),
                 ("s", 1), ("s", "z"), ("s", "y", 0), ("s", "f", 1), ("s", "f", "z"), ("s", "f", 0, "y"), (0,), (0, "n"), ("n", "n", "n"), ("r", 0, "x", "x", 0)]
        for spot in wrong:
            self.assertIsNone(value_at(self.CONTENT, spot), spot)

    def test_empty_contents(self):
        self.assertEqual(value_at([], ()), [])
        self.assertIsNone(value_at([], ("n",)))
        self.assertIsNone(value_at([("b", [])], ("b", 0)))
        self.assertIsNone(value_at([("s", [])], ("s", "y")))
        self.assertEqual(value_at([("s", [])], ("s",)), [])
        self.assertEqual(value_at([("e", (0, []))], ("e", 0)), [])

    def test_copies(self):
        content = copy.deepcopy(self.CONTENT)
        for spot in ((), ("b",), ("r",), ("r", 0), ("e",), ("e", 1), ("s",), ("s", "f")):
            value = value_at(content, spot)
            for part in [value] + [one for one in value if isinstance(one, list)]:
                if isinstance(part, list):
                    part.clear()
            self.assertEqual(content, self.CONTENT)
        value_at(content, ("e",))[1].clear()
        value_at(content, ())[1][1].clear()
        self.assertEqual(content, self.CONTENT)


if __name__ == "__main__":
    unittest.main()
