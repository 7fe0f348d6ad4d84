"""The names of the interface: where they are defined, what they take, and what classes define themselves."""

import importlib
import inspect
import unittest

# The functions of each file, written as they are called.
FUNCTIONS = {
    "shapes": ["is_name(text)"],
    "notation": ["format_shape(shape)", "parse_shape(text)"],
    "machine": ["check_file(data)", "joint_classes(waiting)"],
    "reading": ["paths(shape, data, *, limit=2000)", "values_by(shape, data, path)", "readings(shape, data, *, limit=2000)",
                "read(shape, data, *, limit=2000)", "is_read(shape, data, *, limit=2000)"],
    "search": ["explore(shape, *, limit=2000)", "first_read(shape, *, limit=2000)"],
    "lengths": ["lengths(shape, *, limit=2000)", "shortest(shape, *, limit=2000)", "longest(shape, *, limit=2000)"],
    "counting": ["count_readings(shape, length, *, limit=2000)", "count_files(shape, length, *, limit=2000)"],
    "writing": ["write(shape, values)", "first_file(shape, path, *, limit=2000)"],
    "faults": ["fault(shape, file)", "first_cut(shape, name, *, limit=2000)", "first_wrong(shape, name, *, limit=2000)"],
    "twice": ["two_ways(shape, *, limit=2000)", "is_plain(shape, *, limit=2000)", "two_values(shape, name, *, limit=2000)"],
    "versions": ["covers(one, other, *, limit=2000)", "same_files(one, other, *, limit=2000)", "keeps(one, other, names, *, limit=2000)"],
    "damage": ["certain(shape, damaged, *, limit=2000)", "sure_numbers(shape, damaged, *, limit=2000)"],
    "nearest": ["nearest(shape, file, *, limit=2000)"],
    "cover": ["features(shape)", "shape_with(shape, feature)", "has_feature(shape, file, feature)", "feature_file(shape, feature, *, limit=2000)",
              "feature_files(shape, *, limit=2000)", "file_suite(shape, *, limit=2000)", "check_file_suite(shape, files, *, limit=2000)"],
    "certificates": ["plain_certificate(shape, *, limit=2000)", "covers_certificate(one, other, *, limit=2000)", "check_plain(shape, text)",
                     "check_covers(one, other, text)"],
    "streams": ["ends(shape, stream, *, start=0, limit=2000)", "count_cuts(shapes, stream, *, limit=2000)", "cuts(shapes, stream, *, limit=2000)",
                "chunks(shape, stream, *, limit=2000)"],
    "changes": ["changes(shape, one, other)", "changed(content, made)", "value_at(content, spot)"],
    "bench": ["decide(word, shapes, *, limit=2000)"],
    "commands": ["split_words(line)", "is_byte_word(word)", "is_command(words)"],
}
# The classes of each file, and the methods and properties that they define themselves.
CLASSES = {
    "shapes": {"Shape(items)": ["least_length", "greatest_length", "walk()", "item(name)", "depth(name)", "outer_numbers()", "with_item(name, item)",
                                "without_item(name)"]},
    "machine": {"Machine(shape, *, tell=())": ["start()", "step(state, byte)", "is_done(state)", "waits(state)", "classes(state)"]},
    "reading": {"Reading(path, content)": []},
    "feed": {"Feed(shape, *, limit=2000)": ["received", "ways", "push(data)", "can_end()", "awaits()", "finish()"]},
    "search": {"Search": ["file_to(state)"]},
    "faults": {"Fault(place, awaited, left_over)": []},
    "twice": {"TwoWays(file, first, second)": [], "TwoValues(file, first, second)": []},
    "versions": {"Changed(file, name, before, after)": []},
    "damage": {"Certain(count, bounds)": []},
    "nearest": {"Nearest(changes, file)": []},
    "changes": {"Change(spot, before, after)": []},
    "bench": {"Workbench()": [
        "set_shape(name, shape)", "remove_shape(name)", "replace_item(name, item_name, item)", "remove_item(name, item_name)", "ask(name, *, word, shapes)",
        "drop(name)", "undo()", "redo()", "change_all(changes)", "shape_names()", "question_names()", "shape(name)", "question(name)", "answer(name)",
        "answers()"]},
    "session": {"Session()": ["run(text)"]},
}


def called(name, function):
    """How a function or a method is called."""
    told = inspect.signature(function)
    return name + str(told.replace(parameters=[one for one in told.parameters.values() if one.name != "self"]))


class InterfaceTest(unittest.TestCase):
    def test_functions(self):
        for file, functions in FUNCTIONS.items():
            module = importlib.import_module("byteshape." + file)
            for words in functions:
                name = words.split("(")[0]
                function = getattr(module, name)
                self.assertTrue(inspect.isfunction(function), name)
                self.assertEqual((function.__module__, called(name, function)), (module.__name__, words))

    def test_classes(self):
        for file, classes in CLASSES.items():
            module = importlib.import_module("byteshape." + file)
            for words, methods in classes.items():
                name = words.split("(")[0]
                made = getattr(module, name)
                self.assertTrue(inspect.isclass(made), name)
                self.assertEqual(made.__module__, module.__name__)
                if "(" in words:
                    self.assertEqual(called(name, vars(made)["__init__"]), words)
                for method in methods:
                    defined = vars(made)[method.split("(")[0]]
                    if "(" in method:
                        self.assertEqual(called(method.split("(")[0], defined), method)
                    else:
                        self.assertIsInstance(defined, property)

    def test_limits(self):
        for file in ("machine", "search"):
            self.assertEqual(importlib.import_module("byteshape." + file).LIMIT, 2000)

    def test_fields(self):
        from byteshape.bench import Workbench
        from byteshape.feed import Feed
        from byteshape.machine import Machine
        from byteshape.session import Session
        from byteshape.shapes import Shape
        made = Shape([("bytes", "b", 1)])
        self.assertIs(Machine(made).shape, made)
        self.assertEqual((Feed(made).shape, Feed(made).limit, Feed(made, limit=7).limit), (made, 2000, 7))
        self.assertEqual((made.parts, made.names), ((("bytes", "b", 1),), ("b",)))
        self.assertEqual((Workbench().decided, Workbench().kept), (0, 0))
        self.assertIsInstance(Session().bench, Workbench)


if __name__ == "__main__":
    unittest.main()
