"""Sessions: points 107 to 111."""

import unittest

from byteshape.bench import Workbench
from byteshape.notation import format_shape
from byteshape.session import Session
from byteshape.shapes import Shape
from made import number, shape, some

S = "shape s\nnumber size 1 big 0 9\nbytes body size\ndone\n"
T = "shape t\nnumber size 1 big 0 12\nbytes body size\ndone\n"


class SessionTest(unittest.TestCase):
    def setUp(self):
        self.session = Session()

    def says(self, text, *wanted):
        """Expects these lines as the answer of a text."""
        self.assertEqual(self.session.run(text), list(wanted), text)

    def defined(self, *texts):
        """Defines shapes, whose lines answer nothing but ok."""
        for text in texts:
            self.says(text, "ok", "ok")


class BlockTest(SessionTest):
    def test_example(self):
        self.says("shape s\nnumber size 1 big 0 9\nbytes body size\ndone\nread s 2 7\nread s 1 7\nask q ways s\nanswers",
                  "ok", "ok", "s: fault 2 body", "s: read 1", "ok", "q: single")

    def test_a_new_session(self):
        self.assertIs(type(self.session.bench), Workbench)
        self.assertEqual((self.session.bench.shape_names(), self.session.bench.question_names()), ([], []))
        self.says("")
        self.says("\n\n  \n")
        self.says("show shapes\nshow questions\nanswers", "shapes:", "questions:")

    def test_lines_of_a_block(self):
        self.says(S, "ok", "ok")
        self.assertEqual(self.session.bench.shape("s").parts, (("number", "size", 1, "big", 0, 9), ("bytes", "body", "size")))

    def test_words_and_lines_without_words(self):
        self.says("  shape   s \n\n   number  size 1   big 0 9  \n \nbytes body size\n\n   done  \n", "ok", "ok")
        self.says("print s", "number size 1 big 0 9", "bytes body size")

    def test_a_block_over_several_calls(self):
        self.says("shape s", "ok")
        self.says("number size 1 big 0 9")
        self.says("")
        self.says("bytes body size\n\ntext note 0 5\n")
        self.assertEqual(self.session.bench.shape_names(), [])
        self.says("done\nshow shapes", "ok", "shapes: s")
        self.says("print s", "number size 1 big 0 9", "bytes body size", "text note 0 5")

    def test_lines_that_are_commands_elsewhere(self):
        self.defined(S)
        self.says("shape t\nshow shapes\nundo\nanswers\nshape u\nbytes b 1", "ok")
        self.says("done", "line 1: invalid notation 1")
        self.says("show shapes", "shapes: s")

    def test_done_with_other_words(self):
        self.says("shape s\nbytes b 1\ndone x\ndone done\ndone", "ok", "line 5: invalid notation 2")
        self.says("shape s\ndone\t\nDone\ndone", "ok", "line 4: invalid notation 1")
        self.says("show shapes", "shapes:")

    def test_done_outside(self):
        self.says("done", "line 1: invalid command")
        self.says(S + "done", "ok", "ok", "line 5: invalid command")

    def test_an_empty_block(self):
        self.says("shape s\ndone", "ok", "line 2: invalid notation 1")
        self.says("shape s\n\n  \ndone\nshow shapes", "ok", "line 4: invalid notation 1", "shapes:")

    def test_no_written_form(self):
        self.defined(S)
        self.says("shape s\nbytes b 1\n\nbytes b\ndone\nprint s", "ok", "line 5: invalid notation 2", "number size 1 big 0 9", "bytes body size")
        self.says("shape s\nrepeat r 2\nbytes b 1\ndone", "ok", "line 4: invalid notation 3")
        self.says("show shapes\nprint s", "shapes: s", "number size 1 big 0 9", "bytes body size")

    def test_no_shape(self):
        self.defined(S)
        self.says("shape s\nbytes b n\ndone\nread s 0", "ok", "line 3: invalid shape", "s: read 1")
        self.says("shape t\nbytes b 65\ndone\nshow shapes", "ok", "line 3: invalid shape", "shapes: s")
        self.says("redo\nundo\nundo", "line 1: nothing to redo", "ok", "line 3: nothing to undo")

    def test_a_block_is_one_change(self):
        self.says("shape s\nbytes b 1\nbytes c 1\ndone\nundo\nundo\nredo\nshow shapes", "ok", "ok", "ok", "line 6: nothing to undo", "ok", "shapes: s")
        self.says("undo\nshape t", "ok", "ok")
        self.assertIsNone(self.session.bench.redo())
        self.session.bench.undo()
        self.says("bytes b 1\ndone\nredo", "ok", "line 3: nothing to redo")

    def test_replaced(self):
        self.defined(S)
        self.says("read s 9\nshape s\nbytes b 1\ndone\nread s 9", "s: fault 1 body", "ok", "ok", "s: read 1")


class AnswersTest(SessionTest):
    def test_changes(self):
        self.says(S + T + "ask q covers s t\ncut s body\nundo\nredo\ndrop q\nremove s", *["ok"] * 10)
        self.says("show shapes\nshow questions\nprint t", "shapes: t", "questions:", "number size 1 big 0 12", "bytes body size")

    def test_answer(self):
        self.defined(S, T)
        self.says("ask q covers s t\nask p covers t s\nask a longest s", "ok", "ok", "ok")
        self.says("answer q\nanswer p\nanswer a", "q: covers", "p: misses 11", "a: length 10")
        self.says("answers", "a: length 10", "p: misses 11", "q: covers")
        self.assertEqual((self.session.bench.decided, self.session.bench.kept), (3, 3))

    def test_each_word(self):
        self.defined(S, T, "shape e\neither f\nchoice\nbytes a 1\nchoice\nbytes b 1\nend\ndone",
                     "shape z\nnumber n 1 big 0 1\nswitch w n\ncase 5\nend\ndone")
        for at, (words, wanted) in enumerate((
                ("ways s", "single"), ("ways e", "double 1"), ("shortest s", "length 1"), ("longest z", "nothing"), ("covers s t", "covers"),
                ("covers t s", "misses 11"), ("same s s", "same"), ("same s t", "differs 11"))):
            self.says(f"ask q{at} {words}\nanswer q{at}", "ok", f"q{at}: {wanted}")

    def test_many(self):
        self.defined("shape m\nnumber n 1 big 0 16\nrepeat r n\nnumber m 1 big 0 9\nbytes b m\ntext t 0 5\nend\ncheck c 16\ndone")
        self.says("ask q ways m\nanswer q\nanswers", "ok", "q: many 2000", "q: many 2000")

    def test_show(self):
        self.defined(T, S)
        self.says("show shapes\nshow questions", "shapes: s t", "questions:")
        self.says("ask q ways s\nask b ways t\nshow questions\nshow shapes", "ok", "ok", "questions: b q", "shapes: s t")

    def test_print(self):
        made = Shape([number(), ("repeat", "r", "n", [("either", "e", [[], [some("b")]]), some("c")]), ("switch", "s", "n", [(0, [("check", "k", 7)])])])
        text = format_shape(made)
        self.says("shape x\n" + text + "\ndone", "ok", "ok")
        self.assertEqual(self.session.run("print x"), text.split("\n"))
        self.assertEqual(self.session.bench.shape("x").parts, made.parts)

    def test_read(self):
        self.defined(S, "shape e\nbytes x 1\neither f\nchoice\nbytes a 1\nchoice\nnumber b 1 big 3 9\nchoice\nbytes c 2\nend\ndone")
        self.says("read e 1 2\nread e 1 3\nread e 1 200 0", "e: read 1", "e: read 2", "e: read 1")
        self.says("read e\nread e 1\nread e 1 2 3 4", "e: fault 0 x", "e: fault 1 a b c", "e: fault 3")
        self.says("read e 1 2 3 4 5\nread s 10\nread s 9 255", "e: fault 3", "s: fault 0 size", "s: fault 2 body")
        self.says("shape o\nbytes b 0\ndone\nread o\nread o 0", "ok", "ok", "o: read 1", "o: fault 0")

    def test_names_of_items_that_wait(self):
        # They stand in the order of the shape, not in that of the alphabet.
        self.defined("shape e\nnumber z 1 big 1 1\neither f\nchoice\nbytes y 1\nchoice\nnumber b 1 big 3 9\nchoice\nbytes c 2\nend\ndone")
        self.says("read e 1", "e: fault 1 y b c")

    def test_many_readings(self):
        self.session.bench.set_shape("s", shape(("repeat", "r", 10, [("either", "e", [[some("a")], [some("b")]])])))
        self.session.bench.set_shape("t", shape(("repeat", "r", 11, [("either", "e", [[some("a")], [some("b")]])])))
        self.says("read s" + " 0" * 10 + "\nread t" + " 0" * 11 + "\nread t 1\nread t" + " 0" * 12, "s: read 1024", "line 2: too many", "t: fault 1 a b", "line 4: too many")

    def test_longest_files(self):
        self.defined(S)
        self.says("read s" + " 1" * 4096, "s: fault 2")
        self.says("read s" + " 1" * 4097 + "\nundo", "line 1: invalid file", "ok")

    def test_the_bench_of_a_session(self):
        self.session.bench.set_shape("x", shape(some("b")))
        self.says("read x 7\ncut x b", "x: read 1", "line 2: invalid shape")
        self.says("ask q ways x", "ok")
        self.assertEqual(self.session.bench.question("q"), ("ways", ("x",)))

    def test_answers_are_new(self):
        self.defined(S)
        self.session.run("print s").clear()
        self.session.run("show shapes").clear()
        self.says("print s\nshow shapes", "number size 1 big 0 9", "bytes body size", "shapes: s")

    def test_sessions_apart(self):
        self.defined(S)
        self.assertEqual(Session().run("show shapes"), ["shapes:"])


class ErrorsTest(SessionTest):
    def test_invalid_commands(self):
        self.says("x\n\nundo 1\nshape S\nread s 256\n  \nread s 01\nask q ways\nshow\t", *[f"line {at}: invalid command" for at in (1, 3, 4, 5, 7, 8, 9)])
        self.says("show shapes", "shapes:")

    def test_decided_by_the_words_alone(self):
        # The names are unknown, but the words are wrong already.
        self.says("read x 256\nread x 255\nask q ways S\nask q ways s", "line 1: invalid command", "line 2: unknown name x", "line 3: invalid command", "line 4: unknown name s")

    def test_unknown_names(self):
        self.defined(S)
        self.says("cut x body\ncut s x\nask q way s\nask q ways x\nask q covers s x\ndrop q\nremove x\nanswer q\nprint x\nread x 1",
                  *[f"line {at + 1}: unknown name {name}" for at, name in enumerate(("x", "x", "way", "x", "x", "q", "x", "q", "x", "x"))])

    def test_names_in_use(self):
        self.defined(S, T)
        self.says("ask q covers s t\nremove t\nremove s\ndrop q\nremove s", "ok", "line 2: name in use t", "line 3: name in use s", "ok", "ok")

    def test_other_errors(self):
        self.defined(S)
        self.says("cut s size", "line 1: invalid shape")
        self.says("\nask q ways s s\nask q covers s", "line 2: invalid question", "line 3: invalid question")
        self.says("undo\nundo\nredo\nredo", "ok", "line 2: nothing to undo", "ok", "line 4: nothing to redo")

    def test_lines_behind_an_error(self):
        self.says("undo\n" + S + "cut s x\ncut s body\nprint s", "line 1: nothing to undo", "ok", "ok", "line 6: unknown name x", "ok", "number size 1 big 0 9")

    def test_lines_are_counted_in_each_call(self):
        self.says("x\ny", "line 1: invalid command", "line 2: invalid command")
        self.says("\nx", "line 2: invalid command")
        self.says("shape s\n", "ok")
        self.says("\n\ndone", "line 3: invalid notation 1")

    def test_errors_change_nothing(self):
        self.defined(S, T)
        self.says("ask q covers s t\nundo\ncut s size\nremove x\nask p x s\ndrop q\nredo\nshow questions",
                  "ok", "ok", "line 3: invalid shape", "line 4: unknown name x", "line 5: unknown name x", "line 6: unknown name q", "ok", "questions: q")


if __name__ == "__main__":
    unittest.main()
