"""The workbench: points 101 to 106."""

import random
import unittest

from byteshape.bench import Workbench, decide
from byteshape.errors import ByteshapeError, InvalidQuestion, InvalidShape, NameInUse, NothingToRedo, NothingToUndo, UnknownName
from byteshape.shapes import Shape
from made import number, shape, some

SMALL = shape(number(high=3), some("b", "n"))
LARGE = shape(number(high=5), some("b", "n"))
TWICE = shape(("either", "e", [[some("a")], [some("c")]]))
NONE = shape(number(high=3), ("switch", "s", "n", [(9, [])]))
MANY = shape(number(high=16), ("repeat", "r", "n", [number("m"), some("b", "m"), ("text", "t", 0, 5)]), ("check", "c", 16))


def state(bench):
    """All that a workbench tells without counting answers."""
    return ([(name, bench.shape(name)) for name in bench.shape_names()], [(name, bench.question(name)) for name in bench.question_names()])


def counts(bench):
    """The two counters."""
    return (bench.decided, bench.kept)


def filled():
    """A workbench with two shapes and a question."""
    bench = Workbench()
    bench.set_shape("small", SMALL)
    bench.set_shape("large", LARGE)
    bench.ask("q", word="covers", shapes=["small", "large"])
    return bench


def undone(bench):
    """How often a change can be taken back; the workbench is left as it was."""
    many = 0
    try:
        while True:
            bench.undo()
            many += 1
    except NothingToUndo:
        for _ in range(many):
            bench.redo()
    return many


class BenchTest(unittest.TestCase):
    def fails(self, bench, error, ask, **told):
        """Expects an error with these attributes that changes nothing."""
        before, numbers, many = state(bench), counts(bench), undone(bench)
        with self.assertRaises(error) as caught:
            ask(bench)
        self.assertIs(type(caught.exception), error)
        for name, value in told.items():
            self.assertEqual(getattr(caught.exception, name), value)
        self.assertEqual((state(bench), counts(bench), undone(bench)), (before, numbers, many))


class ChangesTest(BenchTest):
    def test_nothing_is_defined(self):
        bench = Workbench()
        self.assertEqual((bench.shape_names(), bench.question_names(), bench.answers(), counts(bench)), ([], [], [], (0, 0)))
        self.fails(bench, UnknownName, lambda bench: bench.shape("a"), name="a")
        self.fails(bench, UnknownName, lambda bench: bench.question("a"), name="a")
        self.fails(bench, UnknownName, lambda bench: bench.answer("a"), name="a")

    def test_shapes(self):
        bench = Workbench()
        self.assertIsNone(bench.set_shape("b", SMALL))
        self.assertIsNone(bench.set_shape("a", LARGE))
        self.assertEqual(bench.shape_names(), ["a", "b"])
        self.assertEqual((bench.shape("a").parts, bench.shape("b").parts), (LARGE.parts, SMALL.parts))
        bench.set_shape("a", TWICE)
        self.assertEqual((bench.shape_names(), bench.shape("a").parts), (["a", "b"], TWICE.parts))
        self.assertIsNone(bench.remove_shape("a"))
        self.assertEqual(bench.shape_names(), ["b"])
        self.fails(bench, UnknownName, lambda bench: bench.shape("a"), name="a")

    def test_questions(self):
        bench = filled()
        self.assertIsNone(bench.ask("p", word="ways", shapes=["large"]))
        self.assertEqual(bench.question_names(), ["p", "q"])
        self.assertEqual((bench.question("p"), bench.question("q")), (("ways", ("large",)), ("covers", ("small", "large"))))
        bench.ask("q", word="same", shapes=["large", "small"])
        self.assertEqual(bench.question("q"), ("same", ("large", "small")))
        self.assertIsNone(bench.drop("p"))
        self.assertEqual(bench.question_names(), ["q"])
        self.fails(bench, UnknownName, lambda bench: bench.drop("p"), name="p")
        self.fails(bench, UnknownName, lambda bench: bench.drop("small"), name="small")

    def test_names_apart(self):
        bench = filled()
        bench.ask("small", word="ways", shapes=["small"])
        bench.set_shape("q", TWICE)
        self.assertEqual((bench.shape_names(), bench.question_names()), (["large", "q", "small"], ["q", "small"]))
        bench.drop("small")
        self.assertEqual(bench.shape_names(), ["large", "q", "small"])
        bench.remove_shape("q")
        self.assertEqual(bench.question_names(), ["q"])

    def test_ascending_order(self):
        bench = Workbench()
        for name in ("b", "a10", "a9", "c", "a"):
            bench.set_shape(name, SMALL)
        for name in ("z", "b2", "b", "b10", "a"):
            bench.ask(name, word="ways", shapes=["a"])
        self.assertEqual(bench.shape_names(), ["a", "a10", "a9", "b", "c"])
        self.assertEqual(bench.question_names(), ["a", "b", "b10", "b2", "z"])
        self.assertEqual(bench.answers(), [(name, ("single",)) for name in ("a", "b", "b10", "b2", "z")])

    def test_remove_shape(self):
        bench = filled()
        self.fails(bench, UnknownName, lambda bench: bench.remove_shape("q"), name="q")
        self.fails(bench, NameInUse, lambda bench: bench.remove_shape("small"), name="small")
        self.fails(bench, NameInUse, lambda bench: bench.remove_shape("large"), name="large")
        bench.ask("q", word="ways", shapes=["small"])
        bench.remove_shape("large")
        bench.drop("q")
        bench.remove_shape("small")
        self.assertEqual(state(bench), ([], []))

    def test_items(self):
        bench = filled()
        self.assertIsNone(bench.replace_item("small", "b", ("text", "t", 0, 5)))
        self.assertEqual(bench.shape("small").parts, (number(high=3), ("text", "t", 0, 5)))
        self.assertIsNone(bench.remove_item("small", "t"))
        self.assertEqual(bench.shape("small").parts, (number(high=3),))
        self.assertEqual(SMALL.names, ("n", "b"))

    def test_errors_of_items(self):
        bench = filled()
        for ask in (lambda bench: bench.replace_item("q", "b", some("b", 99)), lambda bench: bench.remove_item("q", "n")):
            self.fails(bench, UnknownName, ask, name="q")
        for ask in (lambda bench: bench.replace_item("small", "x", some("b", 99)), lambda bench: bench.remove_item("small", "x")):
            self.fails(bench, UnknownName, ask, name="x")
        for ask in (lambda bench: bench.replace_item("small", "b", some("b", 99)), lambda bench: bench.remove_item("small", "n"),
                    lambda bench: bench.replace_item("small", "b", some("n", 1))):
            self.fails(bench, InvalidShape, ask)

    def test_ask(self):
        bench = filled()
        self.fails(bench, UnknownName, lambda bench: bench.ask("p", word="way", shapes=["x", "y", "z"]), name="way")
        self.fails(bench, UnknownName, lambda bench: bench.ask("p", word="", shapes=[]), name="")
        for word in ("ways", "shortest", "longest"):
            for shapes in ([], ["small", "large"], ["x", "y"], ["small"] * 3):
                self.fails(bench, InvalidQuestion, lambda bench: bench.ask("p", word=word, shapes=shapes))
            self.fails(bench, UnknownName, lambda bench: bench.ask("p", word=word, shapes=["q"]), name="q")
            bench.ask("p", word=word, shapes=["small"])
        for word in ("covers", "same"):
            for shapes in ([], ["small"], ["x"], ["x", "y", "z"]):
                self.fails(bench, InvalidQuestion, lambda bench: bench.ask("p", word=word, shapes=shapes))
            self.fails(bench, UnknownName, lambda bench: bench.ask("p", word=word, shapes=["y", "x"]), name="y")
            self.fails(bench, UnknownName, lambda bench: bench.ask("p", word=word, shapes=["small", "x"]), name="x")
            bench.ask("p", word=word, shapes=["small", "large"])

    def test_the_same_shape_twice(self):
        bench = filled()
        bench.ask("p", word="same", shapes=["small", "small"])
        self.assertEqual((bench.question("p"), bench.answer("p")), (("same", ("small", "small")), ("same",)))
        self.fails(bench, NameInUse, lambda bench: bench.remove_shape("small"), name="small")

    def test_about_what_is_defined_when_it_is_answered(self):
        bench = filled()
        self.assertEqual(bench.answer("q"), ("covers",))
        bench.set_shape("large", shape(number(high=2), some("b", "n")))
        self.assertEqual(bench.answer("q"), ("misses", 4))
        bench.replace_item("large", "n", number(high=3))
        self.assertEqual(bench.answer("q"), ("covers",))

    def test_copies(self):
        bench = filled()
        shapes = ["small"]
        bench.ask("p", word="ways", shapes=shapes)
        shapes.append("large")
        self.assertEqual(bench.question("p"), ("ways", ("small",)))
        changes = [("ask", "o", "ways", ["small"]), ("drop", "q")]
        bench.change_all(changes)
        self.assertEqual(changes, [("ask", "o", "ways", ["small"]), ("drop", "q")])
        changes[0][3].append("x")
        changes.clear()
        bench.undo()
        bench.redo()
        self.assertEqual(bench.question("o"), ("ways", ("small",)))
        for found in (bench.shape_names(), bench.question_names(), bench.answers()):
            found.clear()
        self.assertEqual((bench.shape_names(), bench.question_names()), (["large", "small"], ["o", "p"]))
        self.assertEqual(bench.answers(), [("o", ("single",)), ("p", ("single",))])


class UndoTest(BenchTest):
    def test_both_ends(self):
        bench = Workbench()
        self.fails(bench, NothingToUndo, lambda bench: bench.undo())
        self.fails(bench, NothingToRedo, lambda bench: bench.redo())
        bench.set_shape("a", SMALL)
        self.fails(bench, NothingToRedo, lambda bench: bench.redo())
        self.assertIsNone(bench.undo())
        self.fails(bench, NothingToUndo, lambda bench: bench.undo())
        self.assertEqual(state(bench), ([], []))
        self.assertIsNone(bench.redo())
        self.fails(bench, NothingToRedo, lambda bench: bench.redo())
        self.assertEqual(bench.shape_names(), ["a"])

    def test_several_times(self):
        bench = Workbench()
        steps = [lambda: bench.set_shape("a", SMALL), lambda: bench.set_shape("b", LARGE), lambda: bench.ask("q", word="same", shapes=["a", "b"]),
                 lambda: bench.replace_item("a", "n", number(high=5)), lambda: bench.set_shape("a", SMALL), lambda: bench.remove_item("b", "b"),
                 lambda: bench.ask("q", word="ways", shapes=["b"]), lambda: bench.remove_shape("a"), lambda: bench.drop("q")]
        states = [state(bench)]
        for step in steps:
            step()
            states.append(state(bench))
        for _ in range(2):
            for at in reversed(range(len(steps))):
                bench.undo()
                self.assertEqual(state(bench), states[at])
            self.fails(bench, NothingToUndo, lambda bench: bench.undo())
            for at in range(len(steps)):
                bench.redo()
                self.assertEqual(state(bench), states[at + 1])
            self.fails(bench, NothingToRedo, lambda bench: bench.redo())

    def test_a_change_ends_redo(self):
        for change in (lambda bench: bench.set_shape("c", TWICE), lambda bench: bench.remove_item("small", "b"), lambda bench: bench.set_shape("small", SMALL),
                       lambda bench: bench.replace_item("small", "b", some("b", "n"))):
            bench = filled()
            bench.undo()
            change(bench)
            self.fails(bench, NothingToRedo, lambda bench: bench.redo())
            self.assertEqual(undone(bench), 3)
            bench.undo()
            self.assertEqual((bench.shape_names(), bench.question_names()), (["large", "small"], []))
            bench.redo()

    def test_the_same_again_is_a_change(self):
        bench = filled()
        bench.set_shape("small", SMALL)
        bench.ask("q", word="covers", shapes=["small", "large"])
        bench.replace_item("small", "n", number(high=3))
        self.assertEqual(undone(bench), 6)
        bench.undo()
        bench.ask("q", word="covers", shapes=["small", "large"])
        self.fails(bench, NothingToRedo, lambda bench: bench.redo())

    def test_errors_between(self):
        bench = filled()
        bench.undo()
        for ask in (lambda bench: bench.drop("x"), lambda bench: bench.remove_shape("x"), lambda bench: bench.ask("p", word="x", shapes=[]),
                    lambda bench: bench.remove_item("small", "n"), lambda bench: bench.change_all([("drop", "x")])):
            with self.assertRaises(ByteshapeError):
                ask(bench)
        bench.redo()
        self.assertEqual(bench.question_names(), ["q"])
        with self.assertRaises(NothingToRedo):
            bench.redo()
        self.assertEqual(undone(bench), 3)

    def test_answers_are_no_changes(self):
        bench = filled()
        bench.undo()
        bench.answers()
        bench.shape("small")
        bench.redo()
        self.assertEqual(bench.answer("q"), ("covers",))
        bench.undo()
        self.assertEqual(undone(bench), 2)

    def test_at_random(self):
        for seed in range(30):
            chance = random.Random(seed)
            bench = Workbench()
            past, future = [], []
            for _ in range(120):
                before = state(bench)
                name = chance.choice("abc")
                word, shapes = chance.choice([("ways", ["a"]), ("covers", ["a", "b"]), ("same", ["c", "c"]), ("x", []), ("ways", [])])
                change = chance.choice([
                    ("set_shape", name, chance.choice([SMALL, LARGE, TWICE])), ("remove_shape", name), ("replace_item", name, "n", number(high=chance.randint(0, 5))),
                    ("remove_item", name, chance.choice("nb")), ("ask", chance.choice("pq"), word, shapes), ("drop", chance.choice("pq"))])
                kind = chance.randrange(5)
                try:
                    if kind == 0:
                        bench.undo()
                        future.append(before)
                        self.assertEqual(state(bench), past.pop())
                    elif kind == 1:
                        bench.redo()
                        past.append(before)
                        self.assertEqual(state(bench), future.pop())
                    else:
                        made(bench, change, chance.randrange(2))
                        past.append(before)
                        future.clear()
                except ByteshapeError as error:
                    self.assertEqual(isinstance(error, NothingToUndo), kind == 0 and not past)
                    self.assertEqual(isinstance(error, NothingToRedo), kind == 1 and not future)
                    self.assertEqual(state(bench), before)


def made(bench, change, together):
    """Makes a change, by the method of its name or by `change_all`."""
    word, rest = change[0], list(change[1:])
    if together:
        bench.change_all([change])
    elif word == "ask":
        bench.ask(rest[0], word=rest[1], shapes=rest[2])
    else:
        getattr(bench, word)(*rest)


class ChangeAllTest(BenchTest):
    GOOD = [("set_shape", "a", SMALL), ("ask", "p", "ways", ["a"]), ("replace_item", "a", "n", number(high=7)), ("remove_item", "a", "b"),
            ("drop", "p"), ("remove_shape", "a")]

    def test_each_is_a_change_of_its_own(self):
        bench = filled()
        self.assertIsNone(bench.change_all(self.GOOD))
        self.assertEqual(undone(bench), 3 + len(self.GOOD))
        bench.undo()
        self.assertEqual(bench.shape("a").parts, (number(high=7),))
        bench.undo()
        self.assertEqual(bench.question_names(), ["p", "q"])
        bench.undo()
        self.assertEqual(bench.shape("a").parts, (number(high=7), some("b", "n")))
        bench.undo()
        self.assertEqual(bench.shape("a").parts, SMALL.parts)
        bench.redo()
        self.assertEqual(bench.shape("a").parts, (number(high=7), some("b", "n")))

    def test_an_error_at_each_place(self):
        wrong = [(("drop", "x"), UnknownName), (("remove_shape", "small"), NameInUse), (("remove_item", "small", "n"), InvalidShape),
                 (("ask", "p", "ways", []), InvalidQuestion), (("ask", "p", "x", ["small"]), UnknownName), (("remove_item", "x", "n"), UnknownName)]
        for change, error in wrong:
            for at in range(len(self.GOOD) + 1):
                bench = filled()
                bench.ask("o", word="ways", shapes=["small"])
                bench.undo()
                changes = self.GOOD[:at] + [change] + self.GOOD[at:]
                self.fails(bench, error, lambda bench: bench.change_all(changes))
                bench.redo()
                self.assertEqual(bench.question_names(), ["o", "q"])

    def test_the_first_error(self):
        bench = filled()
        self.fails(bench, NameInUse, lambda bench: bench.change_all([("remove_shape", "small"), ("drop", "x")]), name="small")
        self.fails(bench, UnknownName, lambda bench: bench.change_all([("drop", "x"), ("remove_shape", "small")]), name="x")

    def test_later_ones_see_earlier_ones(self):
        bench = filled()
        bench.change_all([("drop", "q"), ("remove_shape", "small")])
        self.assertEqual(state(bench)[1], [])
        self.fails(bench, UnknownName, lambda bench: bench.change_all([("remove_shape", "large"), ("remove_item", "large", "b")]), name="large")

    def test_an_empty_list(self):
        bench = filled()
        bench.undo()
        before = state(bench)
        bench.change_all([])
        self.assertEqual(state(bench), before)
        bench.redo()
        self.assertEqual(undone(bench), 3)


class KeptTest(unittest.TestCase):
    def asked(self, bench, name, decided, kept):
        bench.answer(name)
        self.assertEqual(counts(bench), (decided, kept))

    def test_the_same_question_again(self):
        bench = filled()
        self.asked(bench, "q", 1, 0)
        self.asked(bench, "q", 1, 1)
        bench.ask("other", word="covers", shapes=["small", "large"])
        self.asked(bench, "other", 1, 2)
        bench.ask("turned", word="covers", shapes=["large", "small"])
        self.asked(bench, "turned", 2, 2)
        bench.ask("word", word="same", shapes=["small", "large"])
        self.asked(bench, "word", 3, 2)

    def test_a_definition_that_is_the_same(self):
        bench = filled()
        self.asked(bench, "q", 1, 0)
        bench.set_shape("small", SMALL)
        self.asked(bench, "q", 2, 0)
        bench.replace_item("small", "n", number(high=3))
        self.asked(bench, "q", 3, 0)
        self.asked(bench, "q", 3, 1)

    def test_two_names_of_one_shape(self):
        bench = Workbench()
        bench.set_shape("a", SMALL)
        bench.set_shape("b", SMALL)
        bench.ask("p", word="ways", shapes=["a"])
        bench.ask("q", word="ways", shapes=["b"])
        self.asked(bench, "p", 1, 0)
        self.asked(bench, "q", 2, 0)

    def test_undo_and_redo(self):
        bench = filled()
        self.asked(bench, "q", 1, 0)
        bench.set_shape("small", TWICE)
        self.asked(bench, "q", 2, 0)
        bench.undo()
        self.asked(bench, "q", 2, 1)
        bench.redo()
        self.asked(bench, "q", 2, 2)
        bench.undo()
        bench.set_shape("small", TWICE)
        self.asked(bench, "q", 3, 2)

    def test_dropped_and_removed(self):
        bench = filled()
        self.asked(bench, "q", 1, 0)
        bench.drop("q")
        bench.ask("q2", word="covers", shapes=["small", "large"])
        self.asked(bench, "q2", 1, 1)
        bench.drop("q2")
        bench.remove_shape("small")
        bench.undo()
        bench.undo()
        self.asked(bench, "q2", 1, 2)
        bench.undo()
        bench.undo()
        self.asked(bench, "q", 1, 3)

    def test_other_changes(self):
        bench = filled()
        self.asked(bench, "q", 1, 0)
        bench.set_shape("other", TWICE)
        bench.ask("p", word="ways", shapes=["other"])
        self.asked(bench, "q", 1, 1)

    def test_changes_that_failed(self):
        bench = filled()
        self.asked(bench, "q", 1, 0)
        with self.assertRaises(UnknownName):
            bench.change_all([("set_shape", "small", SMALL), ("drop", "x")])
        self.asked(bench, "q", 1, 1)

    def test_answers(self):
        bench = filled()
        bench.ask("p", word="covers", shapes=["small", "large"])
        bench.ask("a", word="ways", shapes=["small"])
        self.assertEqual(bench.answers(), [("a", ("single",)), ("p", ("covers",)), ("q", ("covers",))])
        self.assertEqual(counts(bench), (2, 1))
        bench.answers()
        self.assertEqual(counts(bench), (2, 4))
        with self.assertRaises(UnknownName):
            bench.answer("x")
        self.assertEqual(counts(bench), (2, 4))

    def test_answers_about_too_many_are_kept(self):
        bench = Workbench()
        bench.set_shape("m", MANY)
        bench.ask("q", word="ways", shapes=["m"])
        self.assertEqual(bench.answer("q"), ("many", 2000))
        self.assertEqual(bench.answer("q"), ("many", 2000))
        self.assertEqual(counts(bench), (1, 1))


class DecideTest(unittest.TestCase):
    def check(self, word, shapes, wanted):
        given = list(shapes)
        self.assertEqual(decide(word, given), wanted)
        self.assertEqual(given, shapes)
        bench = Workbench()
        for at, one in enumerate(shapes):
            bench.set_shape("s" + str(at), one)
        bench.ask("q", word=word, shapes=["s" + str(at) for at in range(len(shapes))])
        self.assertEqual(bench.answer("q"), wanted)
        self.assertEqual(bench.answers(), [("q", wanted)])

    def test_ways(self):
        self.check("ways", [SMALL], ("single",))
        self.check("ways", [TWICE], ("double", 1))
        self.check("ways", [shape(some("x", 3), ("either", "e", [[some("a", 2)], [some("c", 2)]]))], ("double", 5))
        self.check("ways", [NONE], ("single",))

    def test_lengths(self):
        self.check("shortest", [SMALL], ("length", 1))
        self.check("longest", [SMALL], ("length", 4))
        self.check("shortest", [shape(some("b", 0))], ("length", 0))
        self.check("longest", [shape(some("b", 0))], ("length", 0))
        self.check("shortest", [NONE], ("nothing",))
        self.check("longest", [NONE], ("nothing",))

    def test_covers(self):
        self.check("covers", [SMALL, LARGE], ("covers",))
        self.check("covers", [LARGE, SMALL], ("misses", 5))
        self.check("covers", [NONE, SMALL], ("covers",))
        self.check("covers", [shape(some("b", 0)), TWICE], ("misses", 0))

    def test_same(self):
        self.check("same", [SMALL, SMALL], ("same",))
        self.check("same", [SMALL, LARGE], ("differs", 5))
        self.check("same", [LARGE, SMALL], ("differs", 5))
        self.check("same", [shape(some("b", 1)), TWICE], ("same",))

    def test_too_many(self):
        for word, shapes in (("ways", [MANY]), ("covers", [MANY, MANY]), ("same", [MANY, MANY])):
            self.check(word, shapes, ("many", 2000))
        # Lengths count the states of each length by itself.
        wide = shape(number(size=2, high=65535), ("switch", "s", "n", [(0, [])]))
        self.check("longest", [wide], ("length", 2))
        wide = shape(number("n", high=64), number("m", high=64), some("x", 1), some("a", "n"), some("b", "m"))
        for word in ("shortest", "longest"):
            self.check(word, [wide], ("many", 2000))

    def test_other_limits(self):
        self.assertEqual(decide("longest", [SMALL], limit=4), ("length", 4))
        self.assertEqual(decide("longest", [SMALL], limit=3), ("many", 3))
        self.assertEqual(decide("shortest", [SMALL], limit=1), ("many", 1))
        self.assertEqual(decide("ways", [SMALL], limit=1), ("many", 1))
        self.assertEqual(decide("covers", [SMALL, LARGE], limit=1), ("many", 1))
        self.assertEqual(decide("same", [SMALL, LARGE], limit=2), ("many", 2))
        self.assertEqual(decide("ways", [Shape([("bytes", "b", 0)])], limit=1), ("single",))


if __name__ == "__main__":
    unittest.main()
