"""The written form of shapes: points 10 to 12."""

import unittest

from byteshape.errors import InvalidNotation, InvalidShape
from byteshape.notation import format_shape, parse_shape
from byteshape.shapes import Shape
from made import number, shape, some
from shapes_at_random import shape_at_random

WHOLE = """number n 1 big 0 9
number m 2 little 5 65535
bytes b 64
bytes c n
text t 255 64
repeat r 2
bytes d 1
repeat q n
either e
choice
choice
text u 0 0
pad v 8 3
end
bytes w 0
number x 1 little 1 1
end
end
switch s m
case 0
case 65535
check k 16
case 7
either f
choice
bytes y 1
choice
bytes z 2
choice
end
end
pad p 16 255"""

PARTS = (
    number(), number("m", 2, "little", 5, 65535), some("b", 64), some("c", "n"), ("text", "t", 255, 64),
    ("repeat", "r", 2, (some("d"), ("repeat", "q", "n", (
        ("either", "e", ((), (("text", "u", 0, 0), ("pad", "v", 8, 3)))), some("w", 0), number("x", 1, "little", 1, 1))))),
    ("switch", "s", "m", ((0, ()), (65535, (("check", "k", 16),)), (7, (
        ("either", "f", ((some("y"),), (some("z", 2),), ())),)))),
    ("pad", "p", 16, 255),
)


class FormatTest(unittest.TestCase):
    def test_all_kinds(self):
        self.assertEqual(format_shape(Shape(PARTS)), WHOLE)

    def test_example(self):
        made = shape(("either", "e", [[], [("check", "c", 7)]]))
        self.assertEqual(format_shape(made), "either e\nchoice\nchoice\ncheck c 7\nend")

    def test_empty_blocks(self):
        self.assertEqual(format_shape(shape(number(), ("switch", "s", "n", [(10, []), (0, [])]))),
                         "number n 1 big 0 9\nswitch s n\ncase 10\ncase 0\nend")

    def test_names_like_words(self):
        text = "repeat end 1\nbytes choice 1\nbytes case 2\nend"
        self.assertEqual(format_shape(shape(("repeat", "end", 1, [some("choice"), some("case", 2)]))), text)
        self.assertEqual(parse_shape(text).names, ("end", "choice", "case"))


class ParseTest(unittest.TestCase):
    def test_all_kinds(self):
        self.assertEqual(parse_shape(WHOLE).parts, PARTS)

    def test_shapes_at_random(self):
        for seed in range(200):
            made = shape_at_random(seed)
            self.assertEqual(parse_shape(format_shape(made)).parts, made.parts)


class FormTest(unittest.TestCase):
    def line_of(self, text):
        with self.assertRaises(InvalidNotation, msg=repr(text)) as caught:
            parse_shape(text)
        return caught.exception.line

    def test_each_line_of_a_text(self):
        lines = WHOLE.split("\n")
        for at, line in enumerate(lines):
            for wrong in (" " + line, line + " ", line.replace(" ", "  ", 1) if " " in line else line + "  ",
                          line + " 0", line.upper(), "", line.rsplit(" ", 1)[0] if " " in line else "x",
                          line + "\r", line.replace(" ", "\t") + "\t"):
                text = "\n".join(lines[:at] + [wrong] + lines[at + 1:])
                self.assertEqual(self.line_of(text), at + 1, repr(wrong))

    def test_text_that_ends_too_early(self):
        lines = WHOLE.split("\n")
        for many in range(1, len(lines)):
            text = "\n".join(lines[:many])
            depth = sum(line.split(" ")[0] in ("repeat", "either", "switch") for line in lines[:many])
            depth -= lines[:many].count("end")
            if depth:
                self.assertEqual(self.line_of(text), many + 1)
            else:
                self.assertEqual(parse_shape(text).parts, PARTS[:len(parse_shape(text).parts)])
            self.assertEqual(self.line_of(text + "\n"), many + 1)

    def test_example(self):
        self.assertEqual(self.line_of("repeat r 2\nbytes b 1"), 3)

    def test_empty_texts(self):
        self.assertEqual(self.line_of(""), 1)
        self.assertEqual(self.line_of("\n"), 1)
        self.assertEqual(self.line_of(" "), 1)
        self.assertEqual(self.line_of("\nbytes b 1"), 1)
        self.assertEqual(self.line_of("bytes b 1\n"), 2)
        self.assertEqual(self.line_of("bytes b 1\n\nbytes c 1"), 2)
        self.assertEqual(self.line_of("bytes b 1\nbytes c 1\n\n"), 3)

    def test_words(self):
        for line in ("byte b 1", "bytes", "bytes b", "bytes b 1 1", "number n 1 big 0", "number n 1 big 0 9 9", "text t 0",
                     "text t 0 1 2", "repeat r", "repeat r 1 1", "either", "either e 2", "switch s", "switch s n 1",
                     "check c", "check c 1 1", "pad p 1", "pad p 1 1 1", "case 1", "choice", "end", "x", "0", "("):
            self.assertEqual(self.line_of("number n 1 big 0 9\n" + line), 2, line)

    def test_names(self):
        for name in ("", "A", "aB", "1", "1a", "abcdefghijklm", "a_b", "a-b", "\u00e4", "a\u0661"):
            for line in (f"bytes {name} 1", f"number {name} 1 big 0 9", f"text {name} 0 1", f"check {name} 1", f"pad {name} 1 0",
                         f"repeat {name} 1", f"either {name}", f"switch {name} n", f"switch s {name}"):
                self.assertEqual(self.line_of("number n 1 big 0 9\n" + line), 2, line)

    def test_integers(self):
        for word in ("00", "01", "-1", "+1", "1234567890", "0000000000", "1.0", "x", "1_0", "\u0661", "\u00b2", "A", "0x1", "-0"):
            for line in (f"number m {word} big 0 9", f"number m 1 big {word} 9", f"number m 1 big 0 {word}", f"text t {word} 1",
                         f"text t 0 {word}", f"check c {word}", f"pad p {word} 0", f"pad p 1 {word}"):
                self.assertEqual(self.line_of("number n 1 big 0 9\n" + line), 2, line)
            self.assertEqual(self.line_of(f"number n 1 big 0 9\nswitch s n\ncase 0\ncase {word}\nend"), 4)

    def test_amounts(self):
        for word in ("00", "01", "-1", "1234567890", "A", "", "abcdefghijklm", "1a", "\u0661"):
            self.assertEqual(self.line_of(f"bytes b {word}"), 1)
            self.assertEqual(self.line_of(f"repeat r {word}\nbytes b 1\nend"), 1)

    def test_tag_is_a_name(self):
        self.assertEqual(self.line_of("switch s 5\ncase 1\nend"), 1)

    def test_orders(self):
        for word in ("Big", "bigger", "", "0", "LITTLE", "b"):
            self.assertEqual(self.line_of(f"number n 2 {word} 0 9"), 1)

    def test_lines_that_stand_wrong(self):
        self.assertEqual(self.line_of("end"), 1)
        self.assertEqual(self.line_of("choice"), 1)
        self.assertEqual(self.line_of("case 0"), 1)
        self.assertEqual(self.line_of("repeat r 1\nbytes b 1\nend\nend"), 4)
        self.assertEqual(self.line_of("repeat r 1\nchoice"), 2)
        self.assertEqual(self.line_of("repeat r 1\ncase 1"), 2)
        self.assertEqual(self.line_of("either e\nbytes b 1"), 2)
        self.assertEqual(self.line_of("either e\neither f"), 2)
        self.assertEqual(self.line_of("either e\ncase 1"), 2)
        self.assertEqual(self.line_of("either e\nchoice\nbytes b 1\ncase 1"), 4)
        self.assertEqual(self.line_of("number n 1 big 0 9\nswitch s n\nbytes b 1"), 3)
        self.assertEqual(self.line_of("number n 1 big 0 9\nswitch s n\nrepeat b 1"), 3)
        self.assertEqual(self.line_of("number n 1 big 0 9\nswitch s n\nchoice"), 3)
        self.assertEqual(self.line_of("number n 1 big 0 9\nswitch s n\ncase 0\nchoice"), 4)
        self.assertEqual(self.line_of("either e\nchoice\nrepeat r 1\nbytes b 1\nchoice"), 5)
        self.assertEqual(self.line_of("end r"), 1)
        self.assertEqual(self.line_of("repeat r 1\nbytes b 1\nend r"), 3)

    def test_first_wrong_line_counts(self):
        self.assertEqual(self.line_of("bytes b 1\nBytes c 1\n\nend"), 2)
        self.assertEqual(self.line_of("repeat r 1\nbytes b 01\nend\nend"), 2)

    def test_open_at_the_end(self):
        self.assertEqual(self.line_of("either e"), 2)
        self.assertEqual(self.line_of("either e\nchoice\nchoice"), 4)
        self.assertEqual(self.line_of("repeat r 1\neither e\nchoice\nend"), 5)

    def test_blocks_in_three_blocks(self):
        start = "number n 1 big 0 9\nrepeat a 1\neither b\nchoice\nrepeat c 1"
        for line in ("repeat d 1", "either d", "switch d n"):
            self.assertEqual(self.line_of(start + "\n" + line), 6)
            self.assertEqual(self.line_of(start + "\nbytes x 1\n" + line + "\nend\nend\nend\nend"), 7)
        whole = start + "\nbytes d 1\nend\nbytes e 1\nchoice\nend\nbytes f 1\nend"
        self.assertEqual(parse_shape(whole).depth("d"), 3)


class BrokenRulesTest(unittest.TestCase):
    def test_broken_rules(self):
        for text in ("bytes b n", "bytes b 65", "bytes b 999999999", "number n 3 big 0 9", "number n 1 big 9 0",
                     "number n 1 little 0 256", "text t 256 1", "text t 0 65", "repeat r 17\nbytes b 1\nend",
                     "repeat r 1\nend", "repeat r 1\nrepeat q 1\nend\nend", "either e\nend", "either e\nchoice\nend",
                     "either e\nchoice\nchoice\nend", "either e\nchoice\nchoice\nbytes a 1\nchoice\nbytes b 1\nchoice\n"
                     "bytes c 1\nchoice\nbytes d 1\nend", "switch s n\nend", "switch s n\ncase 0\nend",
                     "number n 1 big 0 9\nswitch s n\nend", "number n 1 big 0 9\nswitch s n\ncase 1\ncase 1\nend",
                     "number n 1 big 0 9\nswitch s n\ncase 65536\nend", "check c 0", "check c 17", "check c 1\ncheck d 1",
                     "pad p 3 0", "pad p 4 256", "bytes b 1\nbytes b 1", "bytes b b",
                     "number n 1 big 0 65\nbytes b n", "number n 1 big 0 17\nrepeat r n\nbytes b 1\nend"):
            with self.assertRaises(InvalidShape, msg=text):
                parse_shape(text)

    def test_too_many_items(self):
        lines = [f"bytes b{k} 1" for k in range(13)]
        self.assertEqual(len(parse_shape("\n".join(lines[:12])).names), 12)
        with self.assertRaises(InvalidShape):
            parse_shape("\n".join(lines))

    def test_form_comes_first(self):
        with self.assertRaises(InvalidNotation) as caught:
            parse_shape("bytes b 65\nbytes b 65\nbytes c 01")
        self.assertEqual(caught.exception.line, 3)


if __name__ == "__main__":
    unittest.main()
