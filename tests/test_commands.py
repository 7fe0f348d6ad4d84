"""The words of commands: points 107 and 108."""

import unittest

from byteshape.commands import is_byte_word, is_command, split_words


class WordsTest(unittest.TestCase):
    def test_spaces(self):
        for line, words in (
                ("", []), (" ", []), ("    ", []), ("a", ["a"]), (" a", ["a"]), ("a ", ["a"]), ("  a   b ", ["a", "b"]), ("ask q ways s", ["ask", "q", "ways", "s"])):
            self.assertEqual(split_words(line), words, line)

    def test_other_characters(self):
        for line, words in (("a\tb", ["a\tb"]), ("\t", ["\t"]), ("a\r", ["a\r"]), (" \u00a0 ", ["\u00a0"]), ("a\u2003b c", ["a\u2003b", "c"]), ("\x0b \x0c", ["\x0b", "\x0c"])):
            self.assertEqual(split_words(line), words)

    def test_byte_words(self):
        for value in range(256):
            self.assertIs(is_byte_word(str(value)), True)
        for word in ("", "00", "01", "000", "007", "0255", "256", "257", "260", "300", "999", "1000", "-1", "+1", "-0", "1.0", " 1", "1 ", "0x1", "a", "1a", "1_0",
                     "\u0661", "\u00b2", "\uff11", "1\t", "None"):
            self.assertIs(is_byte_word(word), False, word)


class CommandTest(unittest.TestCase):
    GOOD = ("shape s", "cut s a", "ask q ways s", "ask q covers s t", "ask q x s t u v", "drop q", "remove s", "undo", "redo", "answer q", "answers", "show shapes",
            "show questions", "print s", "read s", "read s 0", "read s 0 255 7", "ask ask ask ask", "read undo 1", "shape done", "shape a12345678901")

    def test_commands(self):
        for line in self.GOOD:
            self.assertIs(is_command(line.split(" ")), True, line)
        self.assertIs(is_command(["read", "s"] + ["1"] * 5000), True)

    def test_a_word_too_few(self):
        for line in ("shape", "cut", "cut s", "ask", "ask q", "ask q ways", "drop", "remove", "answer", "show", "print", "read"):
            self.assertIs(is_command(line.split(" ")), False, line)

    def test_a_word_too_many(self):
        for line in ("shape s t", "cut s a b", "drop q r", "remove s t", "undo 1", "undo undo", "redo redo", "answer q r", "answers q", "show shapes s",
                     "show shapes questions", "print s t", "read s 1 a", "read s t"):
            self.assertIs(is_command(line.split(" ")), False, line)

    def test_wrong_words(self):
        for line in ("done", "end", "number n 1 big 0 9", "Shape s", "SHAPE s", "shapes s", "show", "show shape", "show question", "show all", "help", "ask", "x",
                     "undo\t", "answers\r", "covers s t", "set s", "-", "0"):
            self.assertIs(is_command(line.split(" ")), False, line)

    def test_words_that_are_no_names(self):
        for word in ("S", "1s", "s-1", "s_1", "", "a1234567890123", "s\t", "\u00e4", "7", "s."):
            for line in ("shape {}", "cut {} a", "cut s {}", "ask {} ways s", "ask q {} s", "ask q ways {}", "ask q covers s {}", "ask q covers {} s", "drop {}",
                         "remove {}", "answer {}", "print {}", "read {}", "read {} 1"):
                self.assertIs(is_command(line.format(word).split(" ")), False, (line, word))

    def test_words_that_are_no_bytes(self):
        for word in ("256", "00", "01", "-1", "a", "", "1.0", "0x1", "\u0661"):
            for words in (["read", "s", word], ["read", "s", "1", word], ["read", "s", word, "1"]):
                self.assertIs(is_command(words), False, words)

    def test_words_stay_as_they_were(self):
        for line in self.GOOD:
            words = line.split(" ")
            is_command(words)
            self.assertEqual(words, line.split(" "))


if __name__ == "__main__":
    unittest.main()
