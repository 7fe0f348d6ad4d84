"""Versions: points 58 to 64."""

import random
import unittest

from brute import LONGEST, is_tiny, some_tried, tried
from byteshape.errors import InvalidQuestion, InvalidShape, UnknownName
from byteshape.reading import is_read
from byteshape.shapes import Shape
from byteshape.versions import Changed, covers, keeps, same_files
from made import number, shape, some, too_many

GREAT = 10 ** 6


def fields(changed):
    """The fields of a Changed; None for none."""
    return None if changed is None else (changed.file, changed.name, changed.before, changed.after)


class ClassTest(unittest.TestCase):
    def test_changed(self):
        file = [1, 2]
        found = Changed(file, "n", 3, 5)
        file.append(9)
        self.assertEqual(fields(found), ([1, 2], "n", 3, 5))


class CoversTest(unittest.TestCase):
    def check(self, one, other, lost, gained):
        """The first file that only the first shape reads, and the first one that only the second shape reads."""
        first, second = shape(*one), shape(*other)
        self.assertEqual((covers(first, second), covers(second, first)), (lost, gained), (one, other))
        both = [file for file in (lost, gained) if file is not None]
        expected = min(both, key=lambda file: (len(file), file), default=None)
        self.assertEqual(same_files(first, second), expected)
        self.assertEqual(same_files(second, first), expected)

    def test_example(self):
        narrow = Shape((("number", "n", 1, "big", 0, 9),))
        wide = Shape((("number", "n", 1, "big", 0, 12),))
        self.assertEqual((covers(narrow, wide), covers(wide, narrow)), (None, [10]))

    def test_shape_and_itself(self):
        either = ("either", "e", [[], [some("x")], [("text", "t", 3, 2)]])
        for items in ([number()], [some("b", 0)], [either, number(), ("check", "c", 7)], [number(), ("switch", "s", "n", [(12, [])])],
                      [either, ("pad", "p", 4, 1)], [number(high=3), ("repeat", "r", "n", [("text", "t", 0, 2)])]):
            self.check(items, items, None, None)
        for made, _ in some_tried():
            self.assertIsNone(covers(made, made, limit=GREAT))
            self.assertIsNone(same_files(made, made, limit=GREAT))

    def test_wider_ranges(self):
        self.check([number(low=3)], [number(low=2)], None, [2])
        self.check([number(low=3)], [number(low=3, high=11)], None, [10])
        self.check([number(low=3)], [number(low=2, high=8)], [9], [2])
        self.check([number(size=2, high=515)], [number(size=2, high=516)], None, [2, 4])
        self.check([number(size=2, order="little", high=515)], [number(size=2, order="little", high=516)], None, [4, 2])
        self.check([number(low=1), some("b", "n")], [number(low=1, high=11), some("b", "n")], None, [10] + [0] * 10)

    def test_orders(self):
        self.check([number(size=2, high=1000)], [number(size=2, order="little", high=1000)], [0, 4], [4, 0])
        self.check([number(size=2, high=65535)], [number(size=2, order="little", high=65535)], None, None)
        self.check([number(size=2, high=65535)], [some("b", 2)], None, None)
        self.check([number(high=255)], [number(order="little", high=255)], None, None)

    def test_stops(self):
        self.check([("text", "t", 0, 3)], [("text", "t", 1, 3)], [0], [1])
        self.check([("text", "t", 5, 3)], [("text", "t", 5, 4)], None, [0, 0, 0, 0, 5])
        self.check([("text", "t", 5, 3), some("b")], [("text", "t", 6, 3), some("b")], [5, 0], [6, 0])

    def test_lengths(self):
        self.check([some("b", 3)], [some("b", 2)], [0, 0, 0], [0, 0])
        self.check([some("b", 3)], [some("b", 2), some("c")], None, None)
        self.check([number(), some("b", "n")], [number(), ("repeat", "r", "n", [some("b")])], None, None)
        self.check([number(), some("b", "n")], [number(), ("repeat", "r", "n", [number("m", high=5)])], [1, 6], None)

    def test_cases(self):
        cases = [(0, []), (2, [some("a")])]
        self.check([number(), ("switch", "s", "n", cases)], [number(), ("switch", "s", "n", cases[::-1])], None, None)
        self.check([number(), ("switch", "s", "n", cases)], [number(), ("switch", "s", "n", cases[:1])], [2, 0], None)
        self.check([number(), ("switch", "s", "n", cases)], [number(), ("switch", "s", "n", cases + [(3, [])])], None, [3])
        self.check([number(), ("switch", "s", "n", cases)], [number(), ("switch", "s", "n", cases + [(12, [])])], None, None)

    def test_choices(self):
        one = [number("a", high=3)]
        other = [number("b", high=5), some("c")]
        self.check([("either", "e", [one, other])], [("either", "e", [other, one])], None, None)
        self.check([("either", "e", [one, other])], [("either", "e", [one, other, [some("d", 3)]])], None, [0, 0, 0])
        self.check([("either", "e", [one, other])], [("either", "e", [one, other, [number("d", high=4)]])], None, [4])
        self.check([("either", "e", [one, other])], [("either", "e", [one, other, [number("d", high=2)]])], None, None)
        # Both choices of one shape together are one item of the other one.
        halves = [[number("a", high=127)], [number("b", low=128, high=255)]]
        self.check([("either", "e", halves)], [some("x")], None, None)
        self.check([("either", "e", halves), some("y")], [some("x", 2)], None, None)

    def test_checks_and_pads(self):
        self.check([some("a"), ("check", "c", 5)], [some("a"), some("b")], None, [0, 1])
        self.check([some("a"), ("check", "c", 4)], [some("a"), ("check", "c", 8)], [4, 0], [4, 4])
        self.check([some("a"), ("check", "c", 16)], [some("a"), number("b", high=15)], None, [0, 1])
        self.check([some("a"), ("pad", "p", 2, 7)], [some("a"), ("pad", "p", 2, 8)], [0, 7], [0, 8])
        self.check([some("a"), ("pad", "p", 4, 7)], [some("a"), ("pad", "p", 2, 7)], [0, 7, 7, 7], [0, 7])

    def test_first_of_the_files(self):
        # A shorter file comes first, and then the smaller byte.
        one = ("either", "e", [[number("a", low=7), some("a1", 2)], [number("b", low=9), some("b1")], [number("c", low=8), some("c1")]])
        self.check([one], [number("x", low=9, high=9), some("y")], [8, 0], None)
        self.check([one], [number("x", low=8, high=9), some("y")], [7, 0, 0], None)

    def test_empty_file(self):
        self.check([some("b", 0)], [some("b")], [], [0])
        self.check([("either", "e", [[], [some("b")]])], [some("b")], [], None)
        self.check([("either", "e", [[], [some("b")]])], [some("b", 0)], [0], None)

    def test_nothing_is_read(self):
        nothing = [number(), ("switch", "s", "n", [(12, [])])]
        self.check(nothing, [number(low=3)], None, [3])
        self.check(nothing, [number("x"), some("y"), ("switch", "s", "x", [(12, [])])], None, None)

    def test_states_that_are_not_read(self):
        # Both take the first byte, but one of them cannot end behind it.
        self.check([number(), some("a"), ("switch", "s", "n", [(12, []), (3, [])])], [number(low=3, high=3), some("a")], None, None)

    def test_three_shapes_in_a_row(self):
        rows = [[number(low=3), ("text", "t", 5, 2)], [number(low=3, high=11), ("text", "t", 5, 2)], [some("a"), ("text", "t", 5, 3)]]
        made = [shape(*items) for items in rows]
        for one, other in ((0, 1), (1, 2), (0, 2)):
            self.assertIsNone(covers(made[one], made[other]))
            self.assertIsNotNone(covers(made[other], made[one]))

    def test_answers_are_new(self):
        narrow, wide = shape(number()), shape(number(high=12))
        covers(wide, narrow).append(5)
        same_files(narrow, wide).append(5)
        self.assertEqual((covers(wide, narrow), same_files(narrow, wide)), ([10], [10]))


class KeepsTest(unittest.TestCase):
    def check(self, one, other, names, expected):
        given = list(names)
        self.assertEqual(fields(keeps(shape(*one), shape(*other), given)), expected, (one, other, names))
        self.assertEqual(given, list(names))

    def test_example(self):
        big = Shape((("number", "n", 2, "big", 0, 1000),))
        little = Shape((("number", "n", 2, "little", 0, 1000),))
        changed = keeps(big, little, ["n"])
        self.assertIs(type(changed), Changed)
        self.assertEqual((changed.file, changed.before, changed.after), ([0, 1], 1, 256))

    def test_same_values(self):
        items = [number(), some("b", "n"), number("m", 2, "little", 3, 700)]
        self.check(items, items, ["n", "m"], None)
        self.check(items, [number(high=12)] + items[1:], ["n", "m"], None)
        self.check([number(size=2, high=65535)], [number(size=2, low=7, high=65535)], ["n"], None)
        self.check([number(order="little")], [number()], ["n"], None)

    def test_numbers_in_another_order(self):
        items = [number(low=1), number("m", low=1)]
        self.check(items, items[::-1], ["n"], ([1, 2], "n", 1, 2))
        self.check(items, items[::-1], ["m"], ([1, 2], "m", 2, 1))
        self.check([number(low=1), some("b", 3), number("m", low=1)], [number("m", low=1), some("b", 3), number(low=1)], ["n"],
                   ([1, 0, 0, 0, 2], "n", 1, 2))

    def test_orders_of_bytes(self):
        self.check([number(size=2, low=258, high=770)], [number(size=2, order="little", low=258, high=770)], ["n"],
                   ([1, 2], "n", 258, 513))
        self.check([number(size=2, high=65535), some("b")], [number(size=2, order="little", high=65535), some("b")], ["n"],
                   ([0, 1, 0], "n", 1, 256))

    def test_sizes(self):
        one = [number(high=9), some("b")]
        self.check(one, [number(size=2, high=2000)], ["n"], ([0, 1], "n", 0, 1))
        self.check(one, [number(size=2, order="little", high=2000)], ["n"], ([0, 1], "n", 0, 256))
        self.check([number("z", high=0), number()], [number(size=2, high=65535)], ["n"], None)
        self.check([number(), number("z", high=0)], [number(size=2, order="little", high=65535)], ["n"], None)
        self.check([number(size=2, high=65535)], [number("z", high=1), number(high=255)], ["n"], ([1, 0], "n", 256, 0))

    def test_same_value_at_two_places(self):
        # The only file that both shapes read has the same two bytes twice, so both values are the same.
        for first, second, low, high in [(1, 240, 0, 1000), (3, 1, 100, 770), (1, 16, 0x0105, 0x0110), (0, 255, 0, 300)]:
            for order in ("big", "little"):
                told = [first, second] if order == "big" else [second, first]
                items = [number("a" + str(at), low=byte, high=byte) for at, byte in enumerate(told)]
                wide = number(size=2, order=order, low=low, high=high)
                self.check([wide] + items, items + [wide], ["n"], None)
                self.check(items + [wide], [wide] + items, ["n"], None)

    def test_numbers_of_one_and_two_bytes_at_two_places(self):
        one = [number(high=255), number("a", high=1), number("b", high=200)]
        other = [number("x", low=7, high=9), number(size=2, high=700)]
        self.check(one, other, ["n"], ([7, 0, 0], "n", 7, 0))
        self.check(other, one, ["n"], ([7, 0, 0], "n", 0, 7))
        one = [number(low=7, high=7), number("a", high=0), number("b", low=7, high=7)]
        self.check(one, other, ["n"], None)
        self.check(other, one, ["n"], None)
        one = [number(low=7, high=7), number("a", low=1, high=1), number("b", low=7, high=7)]
        self.check(one, other, ["n"], ([7, 1, 7], "n", 7, 263))
        self.check(other, one, ["n"], ([7, 1, 7], "n", 263, 7))

    def test_names(self):
        one = [number("a", high=3), number("b", high=3), number("c", high=3)]
        other = [number("a", high=3), number("c", high=3), number("b", high=3)]
        self.check(one, other, [], None)
        self.check(one, other, ["a"], None)
        self.check(one, other, ["a", "b", "c"], ([0, 0, 1], "b", 0, 1))
        self.check(one, other, ["c", "a", "b"], ([0, 0, 1], "c", 1, 0))
        self.check(one, other, ["a", "b", "b", "a"], ([0, 0, 1], "b", 0, 1))
        self.check(one, other, ["a", "a"], None)

    def test_first_file_of_all_names(self):
        # The value of the second name changes in an earlier file.
        one = [number("a", low=1, high=3), number("b", high=3), number("c", high=3), number("d", high=3)]
        other = [number("d", low=1, high=3), number("c", high=3), number("b", high=3), number("a", high=3)]
        self.check(one, other, ["a"], ([1, 0, 0, 0], "a", 1, 0))
        self.check(one, other, ["b"], ([1, 0, 1, 0], "b", 0, 1))
        self.check(one, other, ["b", "a"], ([1, 0, 0, 0], "a", 1, 0))
        self.check(one, other, ["b", "d", "a"], ([1, 0, 0, 0], "d", 0, 1))

    def test_files_that_only_one_reads(self):
        self.check([number(low=5), some("b")], [some("b"), number(low=6)], ["n"], ([5, 6], "n", 5, 6))
        self.check([number(low=5, high=5), some("b")], [number(low=5, high=5), some("b")], ["n"], None)
        self.check([number(low=1, high=3)], [number(low=5, high=7)], ["n"], None)
        self.check([number(), some("b", 2)], [some("b"), number()], ["n"], None)
        # The only file that both shapes read has the same values.
        self.check([number(low=7, high=7), number("m", low=7)], [number("m"), number(low=7, high=7)], ["n", "m"], None)

    def test_nothing_is_read(self):
        nothing = [number(), ("switch", "s", "n", [(12, [])])]
        self.check(nothing, [number()], ["n"], None)
        self.check(nothing, nothing, ["n"], None)

    def test_readings_of_one_shape(self):
        # The shape reads the file with two values, so it does not keep them beside itself.
        items = [("either", "e", [[], [some("a")]]), number(low=1), ("either", "f", [[some("b")], [some("c", 2)]])]
        self.check(items, items, ["n"], ([1, 2, 0], "n", 1, 2))
        # Readings with the same values are no change.
        items = [number(low=1), ("either", "e", [[some("a")], [some("b")]])]
        self.check(items, items, ["n"], None)

    def test_least_values(self):
        # One shape reads 7, 5 and 4 in the file, the other one only one of the bytes.
        before = [[], [number("a", low=7, high=7), some("a1")], [number("b", low=7, high=7), some("b1"), number("b2", low=5, high=5)]]
        behind = [[some("c"), number("c1", low=5, high=5), number("c2", low=4, high=4), some("c3", 2)],
                  [number("d", low=4, high=4), some("d1", 2)], [some("f1", 2)]]
        several = [("either", "e", before), number(low=3), ("either", "f", behind)]
        file = [7, 0, 5, 4, 0, 0]
        rows = [(0, 0, 4, 7), (2, 5, 4, 5), (3, 4, 5, 4)]
        for place, low, least, other in rows:
            single = [some("x", place), number(low=low, high=7), some("y", 5 - place)]
            items = [number("g" + str(k), low=byte, high=byte) for k, byte in enumerate(file)]
            items[place] = number(low=file[place], high=file[place])
            self.assertTrue(is_read(shape(*single), file))
            self.check(several, items, ["n"], (file, "n", least, other))
            reverse = min(value for value in (4, 5, 7) if value != file[place])
            self.check(items, several, ["n"], (file, "n", file[place], reverse))

    def test_errors_of_names(self):
        one = shape(number("a"), number("b"), ("repeat", "r", 1, [number("c")]), some("d"), number("x"))
        other = shape(number("b"), number("c"), some("a"), ("either", "e", [[], [number("d")]]))
        rows = [(["x"], UnknownName), (["a"], InvalidQuestion), (["c"], InvalidQuestion), (["d"], InvalidQuestion), (["e"], UnknownName),
                (["b", "x"], UnknownName), (["b", "a", "x"], InvalidQuestion), (["x", "a"], UnknownName), (["y", "x"], UnknownName),
                (["r"], InvalidQuestion), (["b", "b", "q", "a"], UnknownName)]
        for names, error in rows:
            with self.assertRaises(error) as caught:
                keeps(one, other, names, limit=1)
            if error is UnknownName:
                self.assertEqual(caught.exception.name, [name for name in names if name in "xeyq"][0])
        # For one and the same name, the first shape comes first.
        with self.assertRaises(InvalidQuestion):
            keeps(shape(some("d")), shape(number()), ["d"], limit=1)
        with self.assertRaises(UnknownName) as caught:
            keeps(shape(number()), shape(some("d")), ["d"], limit=1)
        self.assertEqual(caught.exception.name, "d")

    def test_arguments_and_answers(self):
        one = shape(number(size=2, high=1000))
        other = shape(number(size=2, order="little", high=1000))
        names = ["n"]
        keeps(one, other, names).file.append(5)
        self.assertEqual(names, ["n"])
        self.assertEqual(fields(keeps(one, other, names)), ([0, 1], "n", 1, 256))


class LimitTest(unittest.TestCase):
    def test_too_small(self):
        one = shape(number(low=1), some("b", "n"), number("m"))
        other = shape(number("m", low=1), some("b", "m"), number())
        asks = [lambda limit: covers(one, one, limit=limit), lambda limit: same_files(one, one, limit=limit),
                lambda limit: keeps(one, other, ["m"], limit=limit), lambda limit: keeps(one, one, ["m", "n"], limit=limit),
                lambda limit: covers(one, other, limit=limit), lambda limit: same_files(one, other, limit=limit)]
        for ask in asks:
            for limit in range(1, 4):
                self.assertTrue(too_many(ask, limit))
            ask(GREAT)

    def test_great_enough(self):
        one = shape(number(low=1), some("b", "n"), number("m"))
        other = shape(number("m", low=1), some("b", "m"), number(high=10))
        self.assertIsNone(covers(one, other, limit=GREAT))
        self.assertEqual(covers(other, one, limit=GREAT), [1, 0, 10])
        self.assertEqual(same_files(one, other, limit=GREAT), [1, 0, 10])
        self.assertEqual(fields(keeps(one, other, ["m"], limit=GREAT)), ([1, 0, 0], "m", 0, 1))

    def test_usual_limit(self):
        blocks = [some("b" + str(k), 64) for k in range(12)]
        made = shape(number(), ("repeat", "r", 4, blocks))
        for ask in (lambda: covers(made, made), lambda: same_files(made, made), lambda: keeps(made, made, ["n"])):
            self.assertTrue(too_many(lambda limit: ask(), 2000))
        self.assertIsNone(same_files(made, made, limit=GREAT))
        self.assertIsNone(keeps(made, made, ["n"], limit=GREAT))


def other_item(item, chance):
    """An item of the same name, with other parts."""
    kind, name = item[:2]
    if kind == "number":
        low = chance.randint(0, 2)
        return ("number", name, chance.choice([1, 1, 2]), chance.choice(["big", "little"]), low, min(4, low + chance.randint(0, 4)))
    if kind == "bytes":
        return ("text", name, chance.randint(0, 2), chance.randint(0, 2))
    if kind == "text":
        return ("bytes", name, chance.randint(0, 2))
    if kind == "check":
        return ("check", name, chance.randint(1, 2))
    if kind == "pad":
        return ("pad", name, chance.choice([1, 2, 4]), chance.randint(0, 2))
    if kind == "either":
        return ("either", name, chance.sample(item[2], len(item[2])) + [[number("x0", high=4)]])
    if kind == "switch":
        return item[:3] + (item[3][:1],)
    return item[:2] + (chance.randint(0, 2),) + item[3:]


def edited_at_random(made, chance):
    """Tiny shapes that differ from a shape in one item."""
    found = []
    for _ in range(4):
        name = chance.choice(made.names)
        try:
            found.append(made.with_item(name, other_item(made.item(name), chance)))
        except InvalidShape:
            continue
    return [one for one in found if is_tiny(one, LONGEST)]


class TriedTest(unittest.TestCase):
    def setUp(self):
        self.tries = {}
        self.met = {"lost": 0, "changed": 0}

    def files(self, made):
        """The files that a shape reads, with what was found of them."""
        if made.parts not in self.tries:
            self.tries[made.parts] = {file: one for file, one in tried(made).items() if one.readings}
        return self.tries[made.parts]

    def compare(self, one, other, chance):
        first, second = self.files(one), self.files(other)
        lost = [list(file) for file in first if file not in second]
        gained = [list(file) for file in second if file not in first]
        self.assertEqual(covers(one, other), lost[0] if lost else None, (one.parts, other.parts))
        either = sorted(lost[:1] + gained[:1], key=lambda file: (len(file), file))
        self.assertEqual(same_files(one, other), either[0] if either else None, (one.parts, other.parts))
        names = [name for name in one.outer_numbers() if name in other.outer_numbers()]
        chance.shuffle(names)
        expected = None
        for file in first:
            if file in second and expected is None:
                expected = self.change(first[file], second[file], names)
        self.assertEqual(fields(keeps(one, other, names)), expected, (one.parts, other.parts, names))
        self.met["lost"] += len(lost) > 0
        self.met["changed"] += expected is not None

    def change(self, one, other, names):
        """What point 60 says of one file."""
        for name in names:
            for before in one.values(name):
                different = [after for after in other.values(name) if after != before]
                if different:
                    return (one.file, name, before, different[0])
        return None

    def test_tiny_shapes(self):
        group = [made for made, _ in some_tried()]
        for seed in range(0, len(group), 2):
            made = group[seed]
            chance = random.Random(seed)
            for other in edited_at_random(made, chance) + [group[seed - 1], made]:
                self.compare(made, other, chance)
                self.compare(other, made, chance)
        self.assertGreater(self.met["lost"], 50)
        self.assertGreater(self.met["changed"], 8)


if __name__ == "__main__":
    unittest.main()
