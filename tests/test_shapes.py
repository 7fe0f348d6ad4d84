"""Shapes: points 1 to 9."""

import copy
import unittest

from byteshape.errors import InvalidShape, UnknownName
from byteshape.shapes import Shape, is_name
from made import is_valid, number, shape, some


class NamesTest(unittest.TestCase):
    def test_names(self):
        for text in ("a", "z", "a1", "abcdefghijkl", "x00000000009", "end", "z9z"):
            self.assertIs(is_name(text), True, text)

    def test_no_names(self):
        for text in ("", "abcdefghijklm", "1a", "0", "A", "aB", "Ab", "a_b", "a b", " a", "a ", "a\n", "\n",
                     "a-b", "a.b", "\u00e4", "a\u00e4", "a\u0660", "a\u00b2", "\u0430"):
            self.assertIs(is_name(text), False, repr(text))

    def test_names_of_items(self):
        for text in ("", "abcdefghijklm", "1a", "aB", "a\n", None, 5, ["a"], ("a",)):
            self.assertFalse(is_valid(some(text)), repr(text))
        self.assertTrue(is_valid(some("abcdefghijkl")))

    def test_items_of_one_name(self):
        self.assertFalse(is_valid(some("b"), some("b")))
        self.assertFalse(is_valid(some("b"), ("repeat", "b", 1, [some("c")])))
        self.assertFalse(is_valid(some("b"), ("repeat", "r", 1, [some("b")])))
        self.assertFalse(is_valid(("either", "e", [[some("b")], [some("b")]])))
        self.assertFalse(is_valid(("either", "e", [[some("e")], []])))
        self.assertTrue(is_valid(some("b"), ("either", "e", [[some("c")], [some("d")]])))


class KindsTest(unittest.TestCase):
    def each(self, good, bad, make):
        for value in good:
            self.assertTrue(is_valid(*make(value)), value)
        for value in bad:
            self.assertFalse(is_valid(*make(value)), value)

    def test_number_size_and_order(self):
        self.each((1, 2), (0, 3, -1, "1", None, True, 1.0), lambda size: [number(size=size)])
        self.each(("big", "little"), ("Big", "", "middle", None, 1, ["big"]), lambda order: [number(order=order)])
        self.assertFalse(is_valid(number(size=2, order="bigger")))

    def test_number_bounds(self):
        self.each((0, 5, 9), (-1, 10, None, "0", False), lambda low: [number(low=low)])
        self.each((0, 255), (256, -1, None, 65535), lambda high: [number(high=high)])
        self.each((0, 256, 65535), (65536, -1), lambda high: [number(size=2, high=high)])
        self.assertTrue(is_valid(number(low=255, high=255)))
        self.assertTrue(is_valid(number(size=2, low=65535, high=65535)))
        self.assertFalse(is_valid(number(size=2, low=65535, high=65534)))

    def test_bytes(self):
        self.each((0, 64), (-1, 65, None, True, "n", "Big", ["n"], 1.0), lambda length: [some("a"), some("b", length)])

    def test_text(self):
        self.each((0, 255), (-1, 256, None, True, "0"), lambda stop: [("text", "t", stop, 5)])
        self.each((0, 64), (-1, 65, None, True, "n"), lambda most: [number(), ("text", "t", 0, most)])

    def test_repeat(self):
        self.each((0, 16), (-1, 17, None, True, "n"), lambda count: [("repeat", "r", count, [some()])])
        self.each(([some()], (some(),)), (None, "ab", 5, some(), {}), lambda items: [("repeat", "r", 2, items)])

    def test_either(self):
        blocks = [[], [some("a")], [some("b")], [some("c")], [some("d")]]
        self.each((2, 3, 4), (0, 1, 5), lambda many: [("either", "e", blocks[:many])])
        self.each(([], ()), (None, some("b"), 7), lambda choice: [("either", "e", [[some("a")], choice])])
        self.each((blocks[:2], tuple(blocks[:2])), (None, "ab", {}), lambda choices: [("either", "e", choices)])

    def test_switch(self):
        cases = [(value, []) for value in range(9)]
        self.each((1, 8), (0, 9), lambda many: [number(), ("switch", "s", "n", cases[:many])])
        self.each((0, 65535), (-1, 65536, None, True, "0"), lambda value: [number(), ("switch", "s", "n", [(value, [])])])
        self.each(("n",), ("m", "s", "", 0, None, ["n"], ("n",)), lambda tag: [number(), ("switch", "s", tag, [(0, [])])])
        self.assertFalse(is_valid(number(), ("switch", "s", "n", [(4, []), (5, []), (4, [some()])])))
        self.assertTrue(is_valid(number(size=2, high=65535), ("switch", "s", "n", ((4, ()), (5, ())))))

    def test_cases_are_tuples_of_two(self):
        for case in ([0, []], (0,), (0, [], []), None, 0, (0, None), (0, some())):
            self.assertFalse(is_valid(number(), ("switch", "s", "n", [case])), case)

    def test_check(self):
        self.each((1, 16), (0, 17, -1, None, True, "n"), lambda modulus: [("check", "c", modulus)])

    def test_one_check(self):
        self.assertFalse(is_valid(("check", "c", 7), ("check", "d", 7)))
        self.assertFalse(is_valid(("check", "c", 7), ("repeat", "r", 1, [("check", "d", 7)])))
        self.assertFalse(is_valid(("either", "e", [[("check", "c", 7)], [("check", "d", 7)]])))

    def test_pad(self):
        self.each((1, 2, 4, 8, 16), (0, 3, 5, 15, 32, -1, -2, None, True, "n"), lambda many: [("pad", "p", many, 0)])
        self.each((0, 255), (-1, 256, None, True, "0"), lambda byte: [("pad", "p", 4, byte)])

    def test_other_words(self):
        for word in ("Number", "byte", "", "numbers", None, 1, ("number",), ["bytes"]):
            self.assertFalse(is_valid((word, "x", 1)), word)

    def test_parts_too_many_or_too_few(self):
        rows = (number("x"), some("x"), ("text", "x", 0, 5), ("repeat", "x", 1, [some("y")]),
                ("either", "x", [[], [some("y")]]), ("switch", "x", "n", [(0, [])]), ("check", "x", 5), ("pad", "x", 4, 0))
        for item in rows:
            self.assertTrue(is_valid(number(), item), item)
            self.assertFalse(is_valid(number(), item + (0,)), item)
            self.assertFalse(is_valid(number(), item[:-1]), item)
            self.assertFalse(is_valid(number(), item[:1]), item)
            self.assertFalse(is_valid(number(), list(item)), item)
        for item in ((), None, 5, "bytes"):
            self.assertFalse(is_valid(some(), item), item)


class DepthTest(unittest.TestCase):
    def within(self, item, depth):
        for number_of in range(depth):
            item = ("repeat", "r" + str(number_of), 1, [some("a" + str(number_of)), item])
        return item

    def test_plain_items(self):
        for item in (number("x"), some("x"), ("text", "x", 0, 1), ("check", "x", 3), ("pad", "x", 4, 0)):
            self.assertTrue(is_valid(self.within(item, 3)), item)
            self.assertFalse(is_valid(self.within(item, 4)), item)

    def test_items_with_blocks(self):
        rows = (("repeat", "x", 0, [some("y")]), ("either", "x", [[], [some("y")]]), ("switch", "x", "n", [(0, [])]))
        for item in rows:
            self.assertTrue(is_valid(number(), self.within(item, 2)), item)
            self.assertFalse(is_valid(number(), self.within(item, 3)), item)

    def test_items_of_choices_and_cases_at_depth_three(self):
        for block in ([some("y")], [some("y"), ("check", "z", 5)]):
            self.assertTrue(is_valid(number(), self.within(("switch", "x", "n", [(0, block), (1, [])]), 2)))
            self.assertTrue(is_valid(self.within(("either", "x", [block, []]), 2)))
            self.assertTrue(is_valid(self.within(("repeat", "x", 2, block), 2)))

    def test_empty_blocks_at_depth_three(self):
        self.assertFalse(is_valid(number(), self.within(("switch", "x", "n", [(0, []), (1, [])]), 3)))
        self.assertTrue(is_valid(number(), self.within(("switch", "x", "n", [(0, []), (1, [])]), 2)))
        self.assertFalse(is_valid(self.within(("either", "x", [[], []]), 3)))
        self.assertFalse(is_valid(self.within(("repeat", "x", 0, []), 3)))

    def test_choices_and_cases_are_blocks(self):
        deep = some("x")
        for number_of in range(3):
            deep = ("either", "e" + str(number_of), [[some("a" + str(number_of))], [deep]])
        self.assertTrue(is_valid(deep))
        self.assertFalse(is_valid(("either", "e", [[some("a")], [deep]])))
        self.assertFalse(is_valid(number(), ("switch", "s", "n", [(0, [deep])])))

    def test_nesting_without_end(self):
        items = []
        items.append(("repeat", "r", 1, items))
        self.assertFalse(is_valid(*items))

    def test_items_of_a_list(self):
        row = [some("a" + str(k)) for k in range(13)]
        self.assertTrue(is_valid(*row[:12]))
        self.assertFalse(is_valid(*row))
        for many in (12, 13):
            self.assertIs(is_valid(("repeat", "r", 1, row[:many])), many == 12)
            self.assertIs(is_valid(("either", "e", [[], row[:many]])), many == 12)
            self.assertIs(is_valid(number(), ("switch", "s", "n", [(0, row[:many])])), many == 12)

    def test_items_together(self):
        blocks = [[some(letter + str(k)) for k in range(9)] for letter in "xyz"]
        three = [("repeat", "r" + str(k), 1, blocks[k]) for k in range(3)]
        self.assertTrue(is_valid(*three))
        self.assertFalse(is_valid(*three, some("one")))
        self.assertTrue(is_valid(*three[:2], *[some("o" + str(k)) for k in range(10)]))
        self.assertFalse(is_valid(("repeat", "r", 1, three)))

    def test_no_item(self):
        for items in ([], ()):
            with self.assertRaises(InvalidShape):
                Shape(items)

    def test_empty_blocks(self):
        self.assertTrue(is_valid(number(), ("switch", "s", "n", [(0, []), (1, [])])))
        self.assertTrue(is_valid(("either", "e", [[], [some()]])))
        self.assertFalse(is_valid(("repeat", "r", 2, [])))


class VisibleTest(unittest.TestCase):
    def users(self):
        return (some("u", "n"), ("repeat", "u", "n", [some("v")]), ("switch", "u", "n", [(1, [])]))

    def test_ahead(self):
        for user in self.users():
            self.assertTrue(is_valid(number(), user))
            self.assertTrue(is_valid(number(), some(), user))

    def test_ahead_of_what_is_around(self):
        for user in self.users():
            self.assertTrue(is_valid(number(), ("repeat", "r", 2, [some(), user])))
            self.assertTrue(is_valid(number(), ("either", "e", [[some()], [some("c"), user]])))
            self.assertTrue(is_valid(number(), number("m"), ("switch", "s", "m", [(0, [user])])))
            self.assertTrue(is_valid(number(), ("repeat", "r", 2, [some(), ("either", "e", [[some("c")], [user, some("d")]])])))
            self.assertTrue(is_valid(("repeat", "r", 2, [number(), user])))
            self.assertTrue(is_valid(("repeat", "r", 2, [number(), ("either", "e", [[], [some(), user]])])))

    def test_behind(self):
        for user in self.users():
            self.assertFalse(is_valid(user, number()))
            self.assertFalse(is_valid(("repeat", "r", 2, [some(), user]), number()))
            self.assertFalse(is_valid(("repeat", "r", 2, [some(), user, number()])))
            self.assertFalse(is_valid(some(), user))

    def test_within_a_block(self):
        for user in self.users():
            self.assertFalse(is_valid(("repeat", "r", 2, [number()]), user))
            self.assertFalse(is_valid(("either", "e", [[number()], [some()]]), user))
            self.assertFalse(is_valid(("either", "e", [[number()], [some(), user]])))
            self.assertFalse(is_valid(number("m"), ("switch", "s", "m", [(0, [number()]), (1, [user])])))
            self.assertFalse(is_valid(("repeat", "r", 2, [number()]), ("repeat", "q", 2, [some(), user])))
            self.assertFalse(is_valid(("repeat", "r", 2, [("repeat", "q", 1, [number()]), user])))

    def test_item_itself_and_its_block(self):
        self.assertFalse(is_valid(("repeat", "r", "n", [number()])))
        self.assertFalse(is_valid(("switch", "s", "n", [(0, [number()])])))
        self.assertFalse(is_valid(("bytes", "b", "b")))

    def test_no_number(self):
        self.assertFalse(is_valid(some("n"), some("b", "n")))
        self.assertFalse(is_valid(("text", "n", 0, 5), ("repeat", "r", "n", [some()])))
        self.assertFalse(is_valid(("check", "n", 5), ("switch", "s", "n", [(0, [])])))

    def test_high_of_a_length(self):
        self.assertTrue(is_valid(number(high=64), some("b", "n")))
        self.assertFalse(is_valid(number(high=65), some("b", "n")))
        self.assertTrue(is_valid(number(size=2, high=64), ("repeat", "r", 1, [some("c"), some("b", "n")])))

    def test_high_of_a_count(self):
        self.assertTrue(is_valid(number(high=16), ("repeat", "r", "n", [some()])))
        self.assertFalse(is_valid(number(high=17), ("repeat", "r", "n", [some()])))


class LengthsTest(unittest.TestCase):
    def lengths(self, *items):
        made = shape(*items)
        return (made.least_length, made.greatest_length)

    def test_plain_items(self):
        self.assertEqual(self.lengths(number()), (1, 1))
        self.assertEqual(self.lengths(number(size=2)), (2, 2))
        self.assertEqual(self.lengths(some(length=0)), (0, 0))
        self.assertEqual(self.lengths(some(length=64)), (64, 64))
        self.assertEqual(self.lengths(number(low=3, high=7), some(length="n")), (4, 8))
        self.assertEqual(self.lengths(("text", "t", 0, 0)), (1, 1))
        self.assertEqual(self.lengths(("text", "t", 0, 64)), (1, 65))
        self.assertEqual(self.lengths(("check", "c", 16)), (1, 1))
        self.assertEqual(self.lengths(("pad", "p", 1, 0)), (0, 0))
        self.assertEqual(self.lengths(("pad", "p", 16, 0)), (0, 15))

    def test_items_with_blocks(self):
        text = ("text", "t", 0, 4)
        self.assertEqual(self.lengths(("repeat", "r", 3, [some(), text])), (6, 18))
        self.assertEqual(self.lengths(("repeat", "r", 0, [some(), text])), (0, 0))
        self.assertEqual(self.lengths(number(low=2, high=5), ("repeat", "r", "n", [text])), (3, 26))
        self.assertEqual(self.lengths(("either", "e", [[text], [some("a", 3), some("b", 9)]])), (1, 12))
        self.assertEqual(self.lengths(("either", "e", [[], [some("a", 3)], [some("b", 2)]])), (0, 3))
        cases = [(0, [some("a", 3)]), (1, [some("b", 7), text]), (70, [some("c", 4)])]
        self.assertEqual(self.lengths(number(high=0), ("switch", "s", "n", cases)), (4, 13))
        self.assertEqual(self.lengths(number(), ("switch", "s", "n", cases + [(5, [])])), (1, 13))

    def test_example(self):
        self.assertEqual(self.lengths(number(high=3), ("repeat", "r", "n", [("text", "t", 0, 5)]), ("pad", "p", 4, 0)), (1, 22))

    def test_great_lengths(self):
        items = [some("b" + str(k), 64) for k in range(12)]
        for k in range(3):
            items = [("repeat", "r" + str(k), 16, items)]
        self.assertEqual(self.lengths(*items), (16 ** 3 * 768, 16 ** 3 * 768))

    def test_rounds_need_a_byte(self):
        for items in ([("pad", "p", 4, 0)], [some("b", 0)], [some("b", "n")], [("repeat", "q", "n", [some()])],
                      [("either", "e", [[], [some()]])], [("switch", "s", "n", [(0, []), (1, [some()])])]):
            self.assertFalse(is_valid(number(), ("repeat", "r", 2, items)), items)
            self.assertFalse(is_valid(number(), ("repeat", "r", 0, items)), items)
            self.assertTrue(is_valid(number(), ("repeat", "r", 2, items + [some("x")])), items)
        self.assertTrue(is_valid(number(low=1), ("repeat", "r", 2, [some("b", "n")])))

    def test_choices_without_bytes(self):
        for block in ([], [("pad", "p", 4, 0)], [some("b", 0)], [some("b", "n")], [("repeat", "q", "n", [some()])]):
            self.assertTrue(is_valid(number(), ("either", "e", [[some("x")], block])), block)
            self.assertFalse(is_valid(number(), ("either", "e", [[some("x")], [("pad", "z", 2, 0)], block])), block)
        self.assertTrue(is_valid(number(low=1), ("either", "e", [[], [some("b", "n")]])))
        self.assertTrue(is_valid(number(), ("switch", "s", "n", [(0, []), (1, []), (2, [("pad", "p", 4, 0)])])))


class CopiesTest(unittest.TestCase):
    def items(self):
        return [number(), ("repeat", "r", "n", [some("a"), ("either", "e", [[], [some("b")]])]),
                ("switch", "s", "n", [(0, [some("c")]), (1, [])])]

    def test_parts_are_tuples(self):
        wanted = (number(), ("repeat", "r", "n", (some("a"), ("either", "e", ((), (some("b"),))))),
                  ("switch", "s", "n", ((0, (some("c"),)), (1, ()))))
        self.assertEqual(Shape(self.items()).parts, wanted)
        self.assertEqual(Shape(tuple(self.items())).parts, wanted)
        self.assertEqual(Shape(wanted).parts, wanted)

    def test_changes_behind_the_call(self):
        items = self.items()
        made = Shape(items)
        before = made.parts
        items[1][3][1][2][0].append(some("x"))
        items[1][3][1][2].append([some("y")])
        items[1][3].append(some("z"))
        items[2][3][1][1].append(some("u"))
        items[2][3].append((5, []))
        items.pop()
        self.assertEqual(made.parts, Shape(self.items()).parts)
        self.assertEqual(made.parts, before)
        self.assertEqual(made.names, ("n", "r", "a", "e", "b", "s", "c"))
        self.assertEqual((made.least_length, made.greatest_length), (1, 20))

    def test_arguments_stay_as_they_were(self):
        items = self.items()
        before = copy.deepcopy(items)
        made = Shape(items)
        item = ("repeat", "r", 2, [some("q")])
        made.with_item("r", item)
        made.without_item("s")
        self.assertEqual(items, before)
        self.assertEqual(item, ("repeat", "r", 2, [some("q")]))

    def test_item_that_replaces_is_copied(self):
        block = [some("q")]
        made = Shape(self.items()).with_item("r", ("repeat", "r", 2, block))
        block.append(some("w"))
        self.assertEqual(made.item("r"), ("repeat", "r", 2, (some("q"),)))

    def test_lists_that_are_returned(self):
        made = Shape(self.items())
        made.outer_numbers().append("x")
        self.assertEqual(made.outer_numbers(), ["n"])


class QuestionsTest(unittest.TestCase):
    def setUp(self):
        self.deep = ("either", "e", ((), (some("b"), number("m"))))
        self.cases = ((0, (some("c"),)), (1, (("repeat", "q", 2, (some("d"),)), some("f"))))
        self.shape = shape(number(), ("repeat", "r", "n", [some("a"), self.deep, some("g")]),
                           ("switch", "s", "n", self.cases), number("last"))

    def test_order(self):
        self.assertEqual(self.shape.names, ("n", "r", "a", "e", "b", "m", "g", "s", "c", "q", "d", "f", "last"))

    def test_walk(self):
        walked = list(self.shape.walk())
        self.assertEqual([item[1] for depth, item in walked], list(self.shape.names))
        self.assertEqual([depth for depth, item in walked], [0, 0, 1, 1, 2, 2, 1, 0, 1, 1, 2, 1, 0])
        self.assertEqual(walked[3], (1, self.deep))
        self.assertIs(type(walked[3]), tuple)
        walk = self.shape.walk()
        self.assertEqual(next(walk), (0, number()))

    def test_item_and_depth(self):
        self.assertEqual(self.shape.item("n"), number())
        self.assertEqual(self.shape.item("e"), self.deep)
        self.assertEqual(self.shape.item("d"), some("d"))
        for depth, item in self.shape.walk():
            self.assertEqual(self.shape.depth(item[1]), depth)
            self.assertEqual(self.shape.item(item[1]), item)

    def test_outer_numbers(self):
        self.assertEqual(self.shape.outer_numbers(), ["n", "last"])
        self.assertEqual(shape(some()).outer_numbers(), [])

    def test_unknown_names(self):
        for name in ("x", "", "N", "a b", "n\n", "abcdefghijklmnop", "0"):
            for ask in (self.shape.item, self.shape.depth, self.shape.without_item,
                        lambda text: self.shape.with_item(text, some("x")),
                        lambda text: self.shape.with_item(text, ("bytes", "X", -1))):
                with self.assertRaises(UnknownName) as caught:
                    ask(name)
                self.assertEqual(caught.exception.name, name)


class EditsTest(unittest.TestCase):
    def setUp(self):
        cases = [(0, [some("c")]), (1, [("repeat", "q", 2, [some("d"), some("h")])])]
        self.shape = shape(number(), ("repeat", "r", "n", [some("a"), ("either", "e", [[], [some("b")]])]),
                           ("switch", "s", "n", cases))
        self.before = (self.shape.parts, self.shape.names, self.shape.least_length, self.shape.greatest_length)

    def tearDown(self):
        now = (self.shape.parts, self.shape.names, self.shape.least_length, self.shape.greatest_length)
        self.assertEqual(now, self.before)

    def test_replacing(self):
        wanted = {"r": "n new s c q d h", "a": "n r new e b s c q d h", "e": "n r a new s c q d h",
                  "b": "n r a e new s c q d h", "s": "n r a e b new", "c": "n r a e b s new q d h",
                  "q": "n r a e b s c new", "d": "n r a e b s c q new h", "h": "n r a e b s c q d new"}
        for name in wanted:
            made = self.shape.with_item(name, ("text", "new", 0, 5))
            self.assertEqual(made.item("new"), ("text", "new", 0, 5))
            self.assertEqual(made.depth("new"), self.shape.depth(name))
            self.assertEqual(" ".join(made.names), wanted[name])

    def test_replacing_keeps_the_rest(self):
        made = self.shape.with_item("b", ("text", "b", 1, 2))
        self.assertEqual(made.parts[0], self.shape.parts[0])
        self.assertEqual(made.parts[1], ("repeat", "r", "n", (some("a"), ("either", "e", ((), (("text", "b", 1, 2),))))))
        self.assertEqual(made.parts[2], self.shape.parts[2])
        made = self.shape.with_item("d", some("d", 5))
        self.assertEqual(made.parts[:2], self.shape.parts[:2])
        self.assertEqual(made.item("s")[3], ((0, (some("c"),)), (1, (("repeat", "q", 2, (some("d", 5), some("h"))),))))

    def test_at_depth_three(self):
        inner = ("switch", "s", "n", [(3, [some("x"), some("y")]), (5, [])])
        made = shape(number(), ("repeat", "r", 2, [some("a"), ("either", "e", [[inner], [some("b")]])]))
        self.assertEqual(made.depth("x"), 3)
        changed = made.with_item("x", some("z", "n"))
        self.assertEqual(changed.item("s"), ("switch", "s", "n", ((3, (some("z", "n"), some("y"))), (5, ()))))
        self.assertEqual(changed.names, ("n", "r", "a", "e", "s", "z", "y", "b"))
        self.assertEqual(made.without_item("y").item("s"), ("switch", "s", "n", ((3, (some("x"),)), (5, ()))))
        for item in (("repeat", "x", 2, [some("z")]), some("y"), some("x", "m"), some("x", 65)):
            with self.assertRaises(InvalidShape):
                made.with_item("x", item)
        self.assertEqual(made.item("s")[3][0], (3, (some("x"), some("y"))))

    def test_replacing_by_a_broken_item(self):
        for item in (some("a"), some("r"), ("bytes", "x", 65), ("bytes", "X", 1), ("byte", "x", 1), ["bytes", "x", 1], None,
                     ("bytes", "x", "none"), ("either", "x", [[], []])):
            with self.assertRaises(InvalidShape):
                self.shape.with_item("b", item)

    def test_replacing_what_is_used(self):
        with self.assertRaises(InvalidShape):
            self.shape.with_item("n", some("n"))
        with self.assertRaises(InvalidShape):
            self.shape.with_item("n", number(high=17))
        self.assertEqual(self.shape.with_item("n", number(high=16)).greatest_length, 1 + 16 * 2 + 4)

    def test_names_may_go_on(self):
        made = self.shape.with_item("r", ("repeat", "r", 1, [some("a", 7)]))
        self.assertEqual(made.names, ("n", "r", "a", "s", "c", "q", "d", "h"))

    def test_depth_of_the_new_item(self):
        three = ("repeat", "x", 1, [("repeat", "y", 1, [("repeat", "z", 1, [some("w")])])])
        self.assertEqual(self.shape.with_item("r", three).depth("w"), 3)
        with self.assertRaises(InvalidShape):
            self.shape.with_item("a", three)

    def test_removing(self):
        self.assertEqual(self.shape.without_item("e").names, ("n", "r", "a", "s", "c", "q", "d", "h"))
        self.assertEqual(self.shape.without_item("s").names, ("n", "r", "a", "e", "b"))
        self.assertEqual(self.shape.without_item("q").item("s")[3], ((0, (some("c"),)), (1, ())))
        self.assertEqual(self.shape.without_item("d").item("q"), ("repeat", "q", 2, (some("h"),)))

    def test_removing_against_the_rules(self):
        for name in ("n", "a", "b"):
            with self.assertRaises(InvalidShape):
                self.shape.without_item(name)
        with self.assertRaises(InvalidShape):
            shape(some()).without_item("b")
        with self.assertRaises(InvalidShape):
            shape(("either", "e", [[], [some("b")]])).without_item("b")

    def test_example(self):
        made = shape(number(high=3), ("repeat", "r", "n", [("text", "t", 0, 5)]), ("pad", "p", 4, 0))
        self.assertEqual(made.depth("t"), 1)
        with self.assertRaises(InvalidShape):
            made.without_item("n")


if __name__ == "__main__":
    unittest.main()
