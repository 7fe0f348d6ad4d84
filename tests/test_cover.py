"""Features and suites: points 71 to 78."""

import random
import unittest

from brute import some_tried
from byteshape.cover import check_file_suite, feature_file, feature_files, features, file_suite, has_feature, shape_with
from byteshape.errors import InvalidFile, InvalidQuestion
from byteshape.search import explore, first_read
from byteshape.shapes import Shape
from made import NO_FILES, number, shape, some, too_many
from shapes_at_random import shape_at_random

ALL_KINDS = [
    number("n", low=1, high=3), some("b", "n"), ("text", "t", 0, 5), ("repeat", "r", "n", [number("x"), ("text", "u", 0, 2)]),
    ("either", "e", [[some("c")], [number("y", low=5, high=9)], []]), ("switch", "s", "n", [(3, []), (1, [some("d")]), (9, [])]),
    ("check", "k", 7), ("pad", "p", 2, 0), number("m", low=4, high=4), number("w", 2, "little", 0, 300)]


def allowed(item, value):
    """What of the features of an item its value has."""
    if item[0] == "number":
        bounds = {"least": item[4], "greatest": item[5]}
        return [(word, item[1]) for word in bounds if bounds[word] == value and (word == "least" or item[4] < item[5])]
    if item[0] == "text":
        return [] if value else [("empty", item[1])]
    return [("choice", item[1], value[0])] if item[0] == "either" else []


def had(made, readings):
    """The features that some of the readings of a file have, by their contents."""
    found = []
    for path, content in readings:
        values = dict(content)
        for item in made.parts:
            if item[1] in values:
                found.extend(allowed(item, values[item[1]]))
            if item[0] == "switch":
                found.append(("case", item[1], values[item[2]]))
    return found


class FeaturesTest(unittest.TestCase):
    def test_example(self):
        made = Shape([("number", "n", 1, "big", 1, 2), ("bytes", "b", "n")])
        self.assertEqual(feature_files(made), [(("least", "n"), [1, 0]), (("greatest", "n"), [2, 0, 0])])

    def test_all_kinds_in_their_order(self):
        self.assertEqual(features(shape(*ALL_KINDS)), [
            ("least", "n"), ("greatest", "n"), ("empty", "t"), ("choice", "e", 0), ("choice", "e", 1), ("choice", "e", 2),
            ("case", "s", 3), ("case", "s", 1), ("case", "s", 9), ("least", "m"), ("least", "w"), ("greatest", "w")])

    def test_kinds_without_features(self):
        self.assertEqual(features(shape(some("b", 3), ("repeat", "r", 2, [number(), ("text", "t", 0, 2)]), ("check", "c", 3), ("pad", "p", 2, 0))), [])

    def test_bounds_that_are_the_same(self):
        self.assertEqual(features(shape(number(low=5, high=5))), [("least", "n")])
        self.assertEqual(features(shape(number(low=0, high=0))), [("least", "n")])
        self.assertEqual(features(shape(number(low=5, high=6))), [("least", "n"), ("greatest", "n")])

    def test_only_items_of_the_outermost_list(self):
        inner = ("either", "f", [[number("m")], [("text", "t", 0, 2)]])
        made = shape(number(high=2), ("either", "e", [[inner], [some("b")]]), ("switch", "s", "n", [(1, [number("o")])]))
        self.assertEqual(features(made), [("least", "n"), ("greatest", "n"), ("choice", "e", 0), ("choice", "e", 1), ("case", "s", 1)])

    def test_no_item_left(self):
        self.assertEqual(features(shape(("either", "e", [[], [some("b")]]))), [("choice", "e", 1)])
        self.assertEqual(features(shape(("either", "e", [[], [some("b")]]), some("c"))), [("choice", "e", 0), ("choice", "e", 1)])

    def test_too_many_items(self):
        rest = [some("b" + str(k)) for k in range(9)]
        blocks = [[some("c" + str(k) + str(many)) for k in range(many)] for many in (2, 3, 4, 12)]
        self.assertEqual(features(shape(("either", "e", blocks[:3]), *rest)), [("choice", "e", 0), ("choice", "e", 1)])
        self.assertEqual(features(shape(("either", "e", blocks[1:]), some("x"))), [("choice", "e", 0), ("choice", "e", 1)])
        self.assertEqual(features(shape(("either", "e", blocks[1:]))), [("choice", "e", 0), ("choice", "e", 1), ("choice", "e", 2)])

    def test_lengths_and_counts_behind(self):
        made = shape(number(high=9), some("b", "n"), ("repeat", "r", "n", [some("c")]), ("switch", "s", "n", [(0, []), (9, [])]))
        self.assertEqual(features(made), [("least", "n"), ("greatest", "n"), ("case", "s", 0), ("case", "s", 9)])
        self.assertEqual(shape_with(made, ("greatest", "n")).greatest_length, 19)

    def test_answers_are_new(self):
        made = shape(number())
        features(made).clear()
        self.assertEqual(features(made), [("least", "n"), ("greatest", "n")])


class NarrowTest(unittest.TestCase):
    def check(self, items, feature, wanted):
        made = shape(*items)
        narrow = shape_with(made, feature)
        self.assertIs(type(narrow), Shape)
        self.assertEqual(narrow.parts, shape(*wanted).parts)
        self.assertEqual(made.parts, shape(*items).parts)

    def test_numbers(self):
        items = [some("a"), number(low=2, high=5), some("b", "n")]
        self.check(items, ("least", "n"), [some("a"), number(low=2, high=2), some("b", "n")])
        self.check(items, ("greatest", "n"), [some("a"), number(low=5, high=5), some("b", "n")])
        self.check([number(low=7, high=7)], ("least", "n"), [number(low=7, high=7)])
        self.check([number("w", 2, "little", 1, 300)], ("greatest", "w"), [number("w", 2, "little", 300, 300)])

    def test_texts(self):
        self.check([("text", "t", 9, 5), some("a")], ("empty", "t"), [("text", "t", 9, 0), some("a")])
        self.check([("text", "t", 9, 0)], ("empty", "t"), [("text", "t", 9, 0)])

    def test_choices(self):
        items = [number(), ("either", "e", [[some("a", "n"), number("m")], [], [some("b")]]), ("pad", "p", 4, 0)]
        self.check(items, ("choice", "e", 0), [number(), some("a", "n"), number("m"), ("pad", "p", 4, 0)])
        self.check(items, ("choice", "e", 1), [number(), ("pad", "p", 4, 0)])
        self.check(items, ("choice", "e", 2), [number(), some("b"), ("pad", "p", 4, 0)])

    def test_cases(self):
        items = [number(), ("switch", "s", "n", [(5, [some("a")]), (0, [])]), ("check", "c", 3)]
        self.check(items, ("case", "s", 5), [number(), ("switch", "s", "n", [(5, [some("a")])]), ("check", "c", 3)])
        self.check(items, ("case", "s", 0), [number(), ("switch", "s", "n", [(0, [])]), ("check", "c", 3)])

    def test_no_feature(self):
        made = shape(*ALL_KINDS)
        wrong = [
            ("most", "n"), ("least", "z"), ("least", "N"), ("least", "b"), ("least", "t"), ("greatest", "m"), ("least", "x"), ("least", "y"),
            ("empty", "u"), ("empty", "n"), ("empty", "b"), ("choice", "e", 3), ("choice", "e", -1), ("choice", "e"), ("choice", "s", 0),
            ("case", "s", 0), ("case", "s", 2), ("case", "s"), ("case", "e", 1), ("least", "n", 1), ("empty", "t", 0), ("choice", "e", 0, 0),
            ("case", "s", 3, 3), ("choice", "e", "0"), ("choice", "e", None), ("choice", "e", True), ("choice", "e", [0]), (), ("least",), ("n",),
            ("check", "k"), ("pad", "p"), ("repeat", "r", 0), ("bytes", "b")]
        for feature in wrong:
            for ask in (lambda: shape_with(made, feature), lambda: feature_file(made, feature, limit=1),
                        lambda: has_feature(made, [0], feature), lambda: has_feature(made, [256], feature), lambda: has_feature(made, None, feature)):
                with self.assertRaises(InvalidQuestion, msg=feature):
                    ask()

    def test_no_feature_without_a_narrow_shape(self):
        made = shape(("either", "e", [[], [some("b")]]))
        for ask in (lambda: shape_with(made, ("choice", "e", 0)), lambda: has_feature(made, [], ("choice", "e", 0)),
                    lambda: feature_file(made, ("choice", "e", 0))):
            with self.assertRaises(InvalidQuestion):
                ask()


class HasFeatureTest(unittest.TestCase):
    def test_features_of_a_file(self):
        made = shape(number(high=3), ("text", "t", 0, 2), ("either", "e", [[some("a")], [number("m", low=5)]]))
        for file, wanted in (
                ([0, 0, 7], [("least", "n"), ("empty", "t"), ("choice", "e", 0), ("choice", "e", 1)]),
                ([3, 9, 0, 4], [("greatest", "n"), ("choice", "e", 0)]),
                ([3, 0, 200], [("greatest", "n"), ("empty", "t"), ("choice", "e", 0)]),
                ([1, 9, 0, 1], [("choice", "e", 0)]),
                ([4, 0, 7], []), ([0, 0], []), ([0, 0, 7, 7], []), ([], [])):
            given = list(file)
            for feature in features(made):
                self.assertIs(has_feature(made, given, feature), feature in wanted, (file, feature))
            self.assertEqual(given, file)

    def test_no_files(self):
        made = shape(number(high=3))
        for file in NO_FILES:
            with self.assertRaises(InvalidFile):
                has_feature(made, file, ("least", "n"))

    def test_files_of_many_ways(self):
        made = shape(number(high=3), ("repeat", "r", 12, [("either", "e", [[some("a")], [some("b")]])]))
        self.assertIs(has_feature(made, [0] * 13, ("least", "n")), True)
        self.assertIs(has_feature(made, [1] * 13, ("least", "n")), False)

    def test_first_files(self):
        made = shape(number(low=1, high=3), some("b", "n"), ("either", "e", [[some("a")], [number("m", low=5)]]), ("check", "c", 16))
        self.assertEqual(feature_file(made, ("least", "n")), [1, 0, 0, 1])
        self.assertEqual(feature_file(made, ("greatest", "n")), [3, 0, 0, 0, 0, 3])
        self.assertEqual(feature_file(made, ("choice", "e", 0)), [1, 0, 0, 1])
        self.assertEqual(feature_file(made, ("choice", "e", 1)), [1, 0, 5, 6])

    def test_features_that_no_file_has(self):
        made = shape(number(high=3), ("switch", "s", "n", [(9, [some("b")]), (2, []), (4, []), (0, [])]))
        self.assertIsNone(feature_file(made, ("case", "s", 9)))
        self.assertIsNone(feature_file(made, ("case", "s", 4)))
        self.assertIsNone(feature_file(made, ("greatest", "n")))
        self.assertEqual(feature_file(made, ("case", "s", 2)), [2])
        self.assertEqual(feature_files(made), [(("least", "n"), [0]), (("case", "s", 2), [2]), (("case", "s", 0), [0])])
        for file in ([0], [2], [9], [9, 0], [3]):
            self.assertIs(has_feature(made, file, ("case", "s", 9)), False)

    def test_answers_are_new(self):
        made = shape(number())
        for file in (feature_file(made, ("least", "n")), feature_files(made)[0][1], file_suite(made)[0]):
            file.clear()
        feature_files(made).clear()
        file_suite(made).clear()
        self.assertEqual(feature_files(made), [(("least", "n"), [0]), (("greatest", "n"), [9])])
        self.assertEqual(file_suite(made), [[0], [9]])

    def test_tiny_shapes(self):
        met = 0
        for made, found in some_tried():
            has = {file: had(made, one.readings) for file, one in found.items()}
            wanted = []
            for feature in features(made):
                files = [list(file) for file in has if feature in has[file]]
                self.assertEqual(feature_file(made, feature), files[0] if files else None, (made.parts, feature))
                if files:
                    wanted.append((feature, files[0]))
                for file in list(has)[::7]:
                    self.assertIs(has_feature(made, list(file), feature), feature in has[file], (made.parts, feature, file))
            self.assertEqual(feature_files(made), wanted)
            met += len(wanted)
        self.assertGreater(met, 150)


def suite_plainly(wanted, has):
    """The suite of point 76; `has(file, feature)` tells whether a file has a feature."""
    files = []
    for feature, file in wanted:
        if not any(has(one, feature) for one in files):
            files.append(file)
    for file in list(files):
        others = [one for one in files if one != file]
        if all(any(has(one, feature) for one in others) for feature, _ in wanted):
            files = others
    return files


class SuiteTest(unittest.TestCase):
    def test_one_file_with_several_features(self):
        made = shape(number(high=3), ("text", "t", 0, 2))
        self.assertEqual(file_suite(made), [[0, 0], [3, 0]])
        self.assertEqual(file_suite(shape(number(low=5, high=5), ("text", "t", 0, 2))), [[5, 0]])

    def test_a_later_file_makes_one_superfluous(self):
        made = shape(("either", "e", [[number("a", high=5)], [number("b", low=2, high=5), some("x", 0)]]), number("m", low=2, high=3))
        self.assertEqual(feature_files(made), [(("choice", "e", 0), [0, 2]), (("choice", "e", 1), [2, 2]), (("least", "m"), [0, 2]), (("greatest", "m"), [0, 3])])
        self.assertEqual(file_suite(made), [[2, 2], [0, 3]])

    def test_the_first_file_is_left_out(self):
        made = shape(number(high=1), ("either", "e", [[some("a")], [number("m", low=1)]]))
        self.assertEqual(feature_files(made), [(("least", "n"), [0, 0]), (("greatest", "n"), [1, 0]), (("choice", "e", 0), [0, 0]), (("choice", "e", 1), [0, 1])])
        self.assertEqual(file_suite(made), [[1, 0], [0, 1]])

    def test_a_file_is_needed_when_another_one_is_left_out(self):
        made = shape(("either", "e", [[number("a", high=5)], [number("b", low=3)], [number("c", low=6)]]))
        self.assertEqual([file for _, file in feature_files(made)], [[0], [3], [6]])
        self.assertEqual(file_suite(made), [[3], [6]])

    def test_no_features(self):
        made = shape(some("b", 2))
        self.assertEqual((features(made), feature_files(made), file_suite(made)), ([], [], []))
        self.assertIs(check_file_suite(made, []), True)
        self.assertIs(check_file_suite(made, [[0, 0]]), False)

    def test_no_feature_is_wanted(self):
        made = shape(number(high=3), ("switch", "s", "n", [(7, [])]))
        self.assertEqual((feature_files(made), file_suite(made)), ([], []))
        self.assertIs(check_file_suite(made, []), True)
        self.assertIs(check_file_suite(made, [[0]]), False)

    def test_lists_that_are_right(self):
        made = shape(number(high=3), ("text", "t", 0, 2))
        for files in ([[0, 0], [3, 0]], [[3, 0], [0, 0]], [[0, 0], [3, 7, 0]], [[0, 1, 1, 0], [3, 0]]):
            self.assertIs(check_file_suite(made, files), True, files)

    def test_lists_that_are_not_right(self):
        made = shape(number(high=3), ("text", "t", 0, 2))
        wrong = ([], [[0, 0]], [[3, 0]], [[0, 5, 0], [3, 5, 0]], [[0, 0], [3, 0], [0, 0]], [[0, 0], [3, 0], [1, 0]], [[0, 0], [3, 0], []],
                 [[0, 0], [3, 0], [4, 4]], [[0, 0], [0, 0], [3, 0]], [[0, 0], [3]], [[0, 0], [3, 0], [3, 9, 0]], [[4], [5]])
        for files in wrong:
            given = [list(file) for file in files]
            self.assertIs(check_file_suite(made, given), False, files)
            self.assertEqual(given, list(files))

    def test_files_that_are_not_the_first_ones(self):
        made = shape(number(low=1, high=9), ("either", "e", [[some("a")], [some("b", 2)]]))
        self.assertIs(check_file_suite(made, [[9, 200], [1, 7, 7]]), True)
        self.assertIs(check_file_suite(made, [[9, 200], [1, 7]]), False)
        self.assertIs(check_file_suite(made, [[9, 200], [2, 7, 7]]), False)
        self.assertIs(check_file_suite(made, [[9, 200], [1, 7], [2, 7, 7]]), True)

    def test_no_files(self):
        made = shape(number(high=200), some("b"), ("either", "e", [[some("c")], [some("d")]]))
        for file in NO_FILES:
            for files in ([file], [[0, 0, 0], file], [[0], [1], file]):
                with self.assertRaises(InvalidFile):
                    check_file_suite(made, files, limit=1)

    def test_tiny_shapes(self):
        left_out = 0
        for seed, (made, found) in enumerate(some_tried()):
            has = {file: had(made, one.readings) for file, one in found.items()}
            wanted = feature_files(made)

            def told(file, feature):
                return feature in has.get(tuple(file), [])

            suite = file_suite(made)
            self.assertEqual(suite, suite_plainly(wanted, told), made.parts)
            self.assertIs(check_file_suite(made, suite), True)
            left_out += len({tuple(file) for _, file in wanted}) > len(suite)
            chance = random.Random(seed)
            for _ in range(8):
                files = [list(chance.choice(list(has))) for _ in range(chance.randint(0, 3))]
                files += chance.sample(suite, chance.randint(0, len(suite)))
                right = all(any(told(file, feature) for file in files) for feature, _ in wanted)
                for at in range(len(files)):
                    others = files[:at] + files[at + 1:]
                    right = right and not all(any(told(file, feature) for file in others) for feature, _ in wanted)
                self.assertIs(check_file_suite(made, files), right, (made.parts, files))
        self.assertGreater(left_out, 5)


class LimitTest(unittest.TestCase):
    def exactly(self, ask, most):
        ask(most)
        for limit in range(1, most):
            self.assertTrue(too_many(ask, limit), (limit, most))

    def test_states_of_the_narrow_shape(self):
        made = shape(number(high=9), some("b", "n"), some("c"))
        self.assertEqual(len(explore(made).states), 12)
        self.exactly(lambda limit: feature_file(made, ("least", "n"), limit=limit), 3)
        self.exactly(lambda limit: feature_file(made, ("greatest", "n"), limit=limit), 12)
        for ask in (feature_files, file_suite):
            self.exactly(lambda limit: ask(made, limit=limit), 12)
        self.exactly(lambda limit: check_file_suite(made, [], limit=limit), 12)

    def test_the_first_feature_that_raises_it(self):
        # The shape itself has more states than each of its narrow shapes.
        made = shape(number(high=40), ("either", "e", [[some("a", "n")], [some("b", "n"), some("c")]]))
        narrow = [len(explore(shape_with(made, feature)).states) for feature in features(made)]
        self.assertEqual(narrow[2:], [42, 43])
        self.exactly(lambda limit: feature_files(made, limit=limit), max(narrow))
        self.assertTrue(too_many(lambda limit: file_suite(made, limit=limit), max(narrow) - 1))

    def test_features_that_no_file_has(self):
        made = shape(number(high=9), some("b", "n"), ("switch", "s", "n", [(20, [])]), number("m", low=3, high=3))
        self.assertEqual(feature_files(made), [])
        most = max(len(explore(shape_with(made, feature)).states) for feature in features(made))
        self.exactly(lambda limit: feature_files(made, limit=limit), most)
        self.exactly(lambda limit: check_file_suite(made, [[0]], limit=limit), most)

    def test_usual_limit(self):
        made = shape(number(high=16), ("repeat", "r", "n", [number("m"), some("b", "m"), ("text", "t", 0, 5)]), ("check", "c", 16))
        for ask in (feature_files, file_suite, lambda made: feature_file(made, ("greatest", "n")), lambda made: check_file_suite(made, [])):
            self.assertTrue(too_many(lambda limit: ask(made), 2000))

    def test_shapes_at_random(self):
        for seed in range(40):
            made = shape_at_random(seed)
            sizes = []
            for feature in features(made):
                narrow = shape_with(made, feature)
                if too_many(lambda limit: explore(narrow, limit=limit), 150):
                    self.assertTrue(too_many(lambda limit: feature_file(made, feature, limit=limit), 150))
                    sizes.append(None)
                else:
                    sizes.append(len(explore(narrow).states))
                    self.assertEqual(feature_file(made, feature, limit=150), first_read(narrow))
            if None in sizes:
                self.assertTrue(too_many(lambda limit: file_suite(made, limit=limit), 150))
            elif sizes and max(sizes) > 1:
                file_suite(made, limit=max(sizes))
                self.assertTrue(too_many(lambda limit: file_suite(made, limit=limit), max(sizes) - 1))


if __name__ == "__main__":
    unittest.main()
