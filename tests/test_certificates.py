"""Certificates: points 81 to 86."""

import random
import unittest

from brute import LETTERS, Tried, some_tried
from byteshape.certificates import check_covers, check_plain, covers_certificate, plain_certificate
from byteshape.errors import InvalidCertificate
from byteshape.reading import paths
from byteshape.shapes import Shape
from byteshape.twice import two_ways
from byteshape.versions import covers
from made import number, shape, some, too_many
from shapes_at_random import shape_at_random

CHOICE = ("either", "e", [[some("a")], [number("n", low=7)]])
# No file is read in two ways, though runs part; `WIDE` reads more files than `NARROW`.
PARTING = [("either", "e", [[some("a")], [number("n", low=7), ("text", "t", 0, 1)]])]
NARROW = [number(high=3), some("b", "n")]
WIDE = [number(high=5), some("b", "n")]


def line_of(check, *arguments):
    """The line of the InvalidCertificate that a question raises, or None."""
    try:
        check(*arguments)
    except InvalidCertificate as error:
        return error.line
    return None


def row_of(line):
    """The file and the paths that a line tells."""
    words = line.split(" ")[1:]
    file = () if words[0] == "-" else tuple(bytes.fromhex(words[0]))
    return file, [() if word == "-" else tuple(int(one) for one in word.split(".")) for word in words[1:]]


class Naive:
    """Point 84 for tiny shapes, done as plainly as possible: ways and states are those of naive.py."""

    def __init__(self, items, beside=None):
        self.items = items
        self.beside = beside
        self.known = {}

    def tried(self, items, file):
        key = (items is self.beside, file)
        if key not in self.known:
            self.known[key] = Tried(items, file)
        return self.known[key]

    def pairs(self, file, pair):
        """The pairs of paths behind a byte more, or before the first byte if the pair is None."""
        ways = [path for path, _ in self.tried(self.items, file).ways]
        if pair is None:
            return [(one, other) for at, one in enumerate(ways) for other in ways[at:]]
        ones, others = [[path for path in ways if path[:len(run)] == run] for run in pair]
        if pair[0] != pair[1]:
            return [(one, other) for one in ones for other in others]
        return [(one, other) for at, one in enumerate(ones) for other in ones[at:]]

    def alike(self, file, pair):
        """What is the same of pairs that are alike; None if there is no such pair."""
        states = dict(self.tried(self.items, file).ways)
        if any(path not in states for path in pair):
            return None
        return (pair[0] != pair[1], tuple(sorted(str(states[path]) for path in pair)))

    def is_plain(self, rows):
        lines = [self.alike(file, pair) for file, pair in rows]
        if None in lines or (True, ("done", "done")) in lines:
            return False
        wanted = [self.alike((), pair) for pair in self.pairs((), None)]
        for file, pair in rows:
            for byte in LETTERS:
                wanted += [self.alike(file + (byte,), behind) for behind in self.pairs(file + (byte,), pair)]
        return set(wanted) <= set(lines)

    def run(self, file, path):
        """What is the same of runs that are alike; None if there is no such run."""
        states = dict(self.tried(self.items, file).ways)
        return (states[path], self.tried(self.beside, file).states) if path in states else None

    def is_cover(self, rows):
        lines = [self.run(file, path) for file, (path,) in rows]
        if None in lines or any(state == "done" and "done" not in others for state, others in lines):
            return False
        wanted = [self.run((), path) for path, _ in self.tried(self.items, ()).ways]
        for file, (path,) in rows:
            for byte in LETTERS:
                longer = file + (byte,)
                wanted += [self.run(longer, one) for one, _ in self.tried(self.items, longer).ways if one[:len(path)] == path]
        return set(wanted) <= set(lines)


def other_texts(text, chance):
    """Texts like a certificate of several lines, some of them as right, others not."""
    first, *lines = text.split("\n")
    found = [[first] + chance.sample(lines, len(lines)), [first] + lines + lines[:1], [first], [first] + lines[1:], [first] + lines[:-1]]
    for _ in range(5):
        changed = list(lines)
        at = chance.randrange(len(lines))
        word, file, *runs = changed[at].split(" ")
        kind = chance.randrange(5)
        if kind == 0:
            del changed[at]
        elif kind == 1:
            runs.reverse()
        elif kind == 2:
            file = "".join(f"{chance.randrange(7):02x}" for _ in range(len(file) // 2)) or "-"
        elif kind == 3:
            runs[0] = chance.choice(["-", "0", "1", "0.1", "1.0", "2"])
        else:
            other = chance.choice(lines).split(" ")
            file, runs = other[1], runs[:1] + other[3:]
        if kind:
            changed[at] = " ".join([word, file] + runs)
        found.append([first] + changed)
    return ["\n".join(rows) for rows in found]


class FormTest(unittest.TestCase):
    def setUp(self):
        self.one = shape(*PARTING)
        self.two = shape(*WIDE)

    def plain(self, text):
        return line_of(check_plain, self.one, text)

    def covers(self, text):
        return line_of(check_covers, self.one, self.two, text)

    def test_all_forms(self):
        for text in ("plain", "plain\npair - - -", "plain\npair 00 0 1\npair 00ff - 0.1.2.3", "twice - - -", "twice 0a1b 0.3 -"):
            self.assertIsNone(self.plain(text), text)
            self.assertEqual(self.covers(text), 1)
        for text in ("covers", "covers\nrun - -", "covers\nrun 00 0\nrun 00ff 0.1.2.3", "misses - -", "misses 0a1b 3"):
            self.assertIsNone(self.covers(text), text)
            self.assertEqual(self.plain(text), 1)

    def test_other_first_lines(self):
        wrong = ("", " ", "plain ", " plain", "plain  ", "Plain", "plan", "plain plain", "pair - - -", "run - -", "-", "twice", "twice -", "twice - -",
                 "twice - - - -", "twice  - - -", "twice -  - -", "twice - - - ", " twice - - -", "twice - - -\r", "twice\t- - -", "twic - - -",
                 "covers ", " covers", "covers -", "misses", "misses -", "misses - - -", "misses  - -", "misses - - ", " misses - -", "missed - -")
        for text in wrong:
            for rest in ("", "\n", "\npair - - -", "\nrun - -"):
                self.assertEqual(self.plain(text + rest), 1, text)
                self.assertEqual(self.covers(text + rest), 1, text)

    def test_a_second_line(self):
        for rest in ("\n", "\n\n", "\ntwice - - -", "\npair - - -", "\nx\ny"):
            self.assertEqual(self.plain("twice - - -" + rest), 2)
        for rest in ("\n", "\nmisses - -", "\nrun - -"):
            self.assertEqual(self.covers("misses - -" + rest), 2)

    def test_words_of_a_line(self):
        good, files, runs = "0a", ("", "0", "00a", "0A", "A0", "0g", "xx", "--", "-0", "0-", "0.", "00 ", "00\t", "+1", "0x", "\u0661\u0662"), (
            "", "4", "00", "01", "0.", ".0", ".", "0..1", "0.4", "0,1", "--", "-.0", "0.-", "-0", "a", "1\t", "\u0661")
        wrong = [f"WORD {file} 0 1" for file in files] + [f"WORD {good} {path} 1" for path in runs] + [f"WORD {good} 1 {path}" for path in runs]
        wrong += ["WORD", "WORD -", "WORD - -", "WORD - - - -", "WORD  - - -", "WORD - - - ", " WORD - - -", "WORDS - - -", "", " ", "- - -"]
        for line in wrong:
            self.assertEqual(self.plain(line.replace("WORD", "twice")), 1, line)
            told = line.replace("WORD", "pair")
            self.assertEqual(self.plain("plain\n" + told), 2, line)
            self.assertEqual(self.plain("plain\n" + told + "\npair - - -\n"), 2, line)
            self.assertEqual(self.plain("plain\npair - - -\n" + told + "\npair - - -\nx"), 3, line)
            self.assertEqual(self.plain("plain\npair - - -\npair - - -\n" + told), 4, line)

    def test_words_of_a_line_about_two(self):
        wrong = [f"WORD {file} 0" for file in ("", "0", "0A", "gg")] + [f"WORD 0a {path}" for path in ("", "4", "0.", ".1", "00", "1..2")]
        wrong += ["WORD", "WORD -", "WORD - - -", "WORD  - -", "WORD - - ", " WORD - -", "pair - -", "", "x"]
        for line in wrong:
            self.assertEqual(self.covers(line.replace("WORD", "misses")), 1, line)
            told = line.replace("WORD", "run")
            self.assertEqual(self.covers("covers\n" + told), 2, line)
            self.assertEqual(self.covers("covers\nrun - -\n" + told + "\nrun - -"), 3, line)
            self.assertEqual(self.covers("covers\nrun - -\nrun 00 -\n" + told), 4, line)

    def test_the_first_line_that_breaks_the_form(self):
        self.assertEqual(self.plain("plain\npair - - -\npair -\npair"), 3)
        self.assertEqual(self.plain("plain\nplain"), 2)
        self.assertEqual(self.plain("plain\n\npair - - -"), 2)
        self.assertEqual(self.plain("plain\ntwice - - -"), 2)
        self.assertEqual(self.covers("covers\ncovers"), 2)
        self.assertEqual(self.covers("covers\nrun - -\npair - - -"), 3)

    def test_longest_files(self):
        longest = shape(("repeat", "r", 16, [("repeat", "q", 16, [some("b", 16)])]))
        for many, line in ((4095, None), (4096, None), (4097, 1), (5000, 1)):
            self.assertEqual(line_of(check_plain, longest, "twice " + "0f" * many + " - -"), line)
            self.assertEqual(line_of(check_covers, longest, longest, "misses " + "0f" * many + " -"), line)
            self.assertEqual(line_of(check_plain, longest, "plain\npair " + "0f" * many + " - -"), line and 2)
            self.assertEqual(line_of(check_covers, longest, longest, "covers\nrun " + "0f" * many + " -"), line and 2)
        self.assertIs(check_covers(longest, shape(some("b")), "misses " + "0f" * 4096 + " -"), True)

    def test_the_form_comes_first(self):
        self.assertEqual(self.plain("plain\npair ff 3 3\nx"), 3)
        self.assertEqual(self.plain("twice ffff 0 0\nx"), 2)


class OneLineTest(unittest.TestCase):
    def test_example(self):
        made = Shape([("either", "e", [[("bytes", "a", 1)], [("number", "n", 1, "big", 7, 9)]])])
        self.assertEqual(plain_certificate(made), "twice 07 0 1")
        self.assertIs(check_plain(made, "twice 0a 0 1"), False)
        self.assertEqual(line_of(check_plain, made, "twice 0A 0 1"), 1)

    def test_twice(self):
        made = shape(CHOICE, ("either", "f", [[some("x")], [some("y")]]))
        for text, right in (
                ("twice 0700 0.0 1.0", True), ("twice 0700 1.0 0.0", True), ("twice 0800 0.1 0.0", True), ("twice 0805 1.0 0.1", True),
                ("twice 0700 0.0 0.0", False), ("twice 0700 1.0 1.0", False), ("twice 0a00 0.0 1.0", False), ("twice 0700 0.0 2.0", False),
                ("twice 0700 0.0 1", False), ("twice 0700 0.0 0", False), ("twice 0700 0.0 0.0.1", False), ("twice 0700 - 0.1", False),
                ("twice 07 0 1", False), ("twice 07 0.0 1.0", False), ("twice 070000 0.0 1.0", False), ("twice - 0.0 1.0", False), ("twice - - -", False),
                ("twice - 0 1", False), ("twice 0700 0.3 0.1", False)):
            self.assertIs(check_plain(made, text), right, text)

    def test_twice_with_the_empty_file(self):
        self.assertIs(check_plain(shape(some("b", 0)), "twice - - -"), False)

    def test_misses(self):
        one, other = shape(CHOICE, some("x", 0)), shape(number("n", low=0, high=7))
        for text, right in (
                ("misses 08 0", True), ("misses 08 1", True), ("misses ff 0", True), ("misses ff 1", False), ("misses 07 0", False), ("misses 07 1", False),
                ("misses 08 2", False), ("misses 08 -", False), ("misses 08 0.0", False), ("misses 0808 0", False), ("misses - 0", False), ("misses - -", False)):
            self.assertIs(check_covers(one, other, text), right, text)
        self.assertIs(check_covers(other, one, "misses 07 -"), False)
        self.assertIs(check_covers(one, shape(some("b", 3)), "misses 07 1"), True)

    def test_misses_with_the_empty_file(self):
        self.assertIs(check_covers(shape(some("b", 0)), shape(some("c", 1)), "misses - -"), True)
        self.assertIs(check_covers(shape(some("b", 0)), shape(some("c", 0)), "misses - -"), False)
        self.assertIs(check_covers(shape(("either", "e", [[], [some("b")]])), shape(some("c", 1)), "misses - 0"), True)
        self.assertIs(check_covers(shape(("either", "e", [[], [some("b")]])), shape(some("c", 1)), "misses - -"), False)

    def test_files_of_many_ways(self):
        # Certificates are checked without a limit.
        rounds = ("repeat", "r", 12, [("either", "e", [[some("a")], [some("b")]])])
        self.assertIs(check_plain(shape(rounds), "twice " + "00" * 12 + " " + "0." * 11 + "0 " + "0." * 11 + "1"), True)
        self.assertIs(check_covers(shape(some("x", 12)), shape(rounds), "misses " + "00" * 12 + " -"), False)


class PlainTest(unittest.TestCase):
    def check(self, lines, right, items=PARTING):
        self.assertIs(check_plain(shape(*items), "\n".join(["plain"] + lines)), right, lines)

    LINES = ["pair - 0 0", "pair - 0 1", "pair - 1 1", "pair 00 0 0", "pair 07 0 1", "pair 07 1 1", "pair 0701 1 1", "pair 070100 1 1"]

    def test_lines(self):
        self.check(self.LINES, True)
        # Both ends are alike, so one line is enough for them.
        self.assertEqual(len(plain_certificate(shape(*PARTING)).split("\n")), len(self.LINES))

    def test_other_orders(self):
        self.check(self.LINES[::-1], True)
        for seed in range(5):
            lines = list(self.LINES)
            random.Random(seed).shuffle(lines)
            self.check(lines, True)

    def test_paths_exchanged(self):
        self.check([line.replace(" 0 1", " 1 0") for line in self.LINES], True)

    def test_lines_twice(self):
        self.check(self.LINES + self.LINES, True)
        self.check(self.LINES + ["pair 07 1 0", "pair 09 1 0"], True)

    def test_other_files_for_the_same_pairs(self):
        self.check([line.replace("07", "08").replace("0801", "09ff") for line in self.LINES], True)

    def test_each_line_is_needed(self):
        for at in range(len(self.LINES)):
            # Both ends are alike: either of their two lines is enough.
            rest = [line for line in self.LINES if line != self.LINES[at]]
            self.check(rest, self.LINES[at] in ("pair 00 0 0", "pair 070100 1 1"))
        self.check([line for line in self.LINES if line not in ("pair 00 0 0", "pair 070100 1 1")], False)

    def test_no_lines(self):
        self.check([], False)
        self.check([], False, [some("b", 0)])
        self.check(["pair - - -"], True, [some("b", 0)])
        self.check(["pair - - -"], False, [some("b", 1)])
        self.check(["pair - - -", "pair 05 - -"], True, [some("b", 1)])

    def test_lines_without_runs(self):
        for line in ("pair 07 0 2", "pair 06 0 1", "pair 06 1 1", "pair - - -", "pair - 0 -", "pair 07 0.0 1", "pair 0707 0 1", "pair 0707 0 0", "pair 07 2 2",
                     "pair 07 - 1", "pair 07010101 1 1"):
            self.check(self.LINES + [line], False)

    def test_parted_pairs_that_both_end(self):
        self.check(self.LINES + ["pair 07 0 1"], True)
        lines = ["pair - 0 0", "pair - 0 1", "pair - 1 1", "pair 00 0 0", "pair 07 1 1"]
        self.check(lines, False, [CHOICE])
        self.check(lines + ["pair 07 0 1"], False, [CHOICE])

    def test_parted_pairs_are_not_like_others(self):
        items = [("either", "e", [[number("a", high=3)], [number("b", low=3)]]), some("c", 1), ("switch", "s", "n", [(9, [])])]
        items = [number(high=3)] + items
        made = shape(*items)
        text = plain_certificate(made)
        self.assertIs(check_plain(made, text), True)
        parted = [line for line in text.split("\n")[1:] if len(set(line.split(" ")[2:])) == 2]
        self.assertTrue(parted)
        for line in parted:
            self.check([one for one in text.split("\n")[1:] if one != line], False, items)
            file, first, _ = line.split(" ")[1:]
            lines = [one for one in text.split("\n")[1:] if one != line]
            self.check(lines + [f"pair {file} {first} {first}"], False, items)


class CoversTest(unittest.TestCase):
    def check(self, one, other, lines, right):
        self.assertIs(check_covers(shape(*one), shape(*other), "\n".join(["covers"] + lines)), right, lines)

    LINES = ["run - -", "run 00 -", "run 01 -", "run 02 -", "run 03 -"]

    def test_lines(self):
        # A run that ends is the same behind each file, and bytes that still come are, too.
        self.check(NARROW, WIDE, self.LINES, True)
        self.check(NARROW, WIDE, ["run - -", "run 0300 -", "run 030000 -", "run 03 -", "run 0105 -"], True)

    def test_other_orders_and_lines_twice(self):
        self.check(NARROW, WIDE, self.LINES[::-1], True)
        self.check(NARROW, WIDE, self.LINES + self.LINES[:2], True)

    def test_each_line_is_needed(self):
        for line in self.LINES:
            self.check(NARROW, WIDE, [one for one in self.LINES if one != line], False)

    def test_no_lines(self):
        self.check(NARROW, WIDE, [], False)

    def test_lines_without_runs(self):
        for line in ("run 04 -", "run 05 -", "run 0000 -", "run 01 0", "run 0101 0", "run 0a -"):
            self.check(NARROW, WIDE, self.LINES + [line], False)

    def test_shapes_that_do_not_cover(self):
        self.check(WIDE, NARROW, ["run - -", "run 00 -", "run 01 -", "run 02 -", "run 03 -"], False)
        self.check(WIDE, NARROW, ["run - -", "run 00 -", "run 01 -", "run 02 -", "run 03 -", "run 04 -", "run 05 -", "run 0400 -", "run 0401 -"], False)

    def test_a_file_without_the_other_shape(self):
        # `other` takes none of the bytes, and no run of `one` ends.
        one = [number(high=0), ("switch", "s", "n", [(3, [])])]
        self.check(one, [number("m", low=7)], ["run - -"], True)
        one = [number(high=2), some("b"), ("switch", "s", "n", [(3, [])])]
        self.check(one, [number("m", low=7)], ["run - -", "run 00 -"], True)
        self.check(one, [number("m", low=7)], ["run - -"], False)

    def test_lists_of_other_states(self):
        # Behind 01 the state of `one` is the same as behind 02, but the list of `other` is another one.
        one = [number(low=1, high=2), some("b")]
        other = [("either", "e", [[number("m", high=1), some("c")], [number("o", low=2), some("d")]])]
        self.check(one, other, ["run - -", "run 01 -", "run 02 -", "run 0100 -"], True)
        self.check(one, other, ["run - -", "run 01 -", "run 0100 -"], False)
        self.check(one, other, ["run - -", "run 02 -", "run 0100 -"], False)
        # The order of the states counts, too.
        other = [("either", "e", [[number("m", high=1), some("c")], [number("o", high=1), some("d")], [number("p", low=2), some("d2")],
                                  [number("q", low=2), some("c2")]])]
        self.check(one, other, ["run - -", "run 01 -", "run 02 -", "run 0100 -"], True)


class CertificateTest(unittest.TestCase):
    def test_plain_shapes(self):
        for items in (PARTING, NARROW, [some("b", 0)], [("either", "e", [[some("a")], []])], [number(), ("switch", "s", "n", [(12, [])])]):
            text = plain_certificate(shape(*items))
            self.assertEqual(text.split("\n")[0], "plain")
            self.assertIs(check_plain(shape(*items), text), True)

    def test_shapes_with_two_readings(self):
        made = shape(("either", "e", [[], [some("a")]]), ("either", "f", [[some("b")], [some("c", 2)]]))
        self.assertEqual(plain_certificate(made), "twice 0000 0.1 1.0")
        self.assertIs(check_plain(made, "twice 0000 0.1 1.0"), True)

    def test_shapes_that_cover(self):
        for one, other in ((NARROW, WIDE), (NARROW, NARROW), ([some("b", 0)], [("either", "e", [[], [some("a")]])])):
            text = covers_certificate(shape(*one), shape(*other))
            self.assertEqual(text.split("\n")[0], "covers")
            self.assertIs(check_covers(shape(*one), shape(*other), text), True)

    def test_shapes_that_do_not_cover(self):
        self.assertEqual(covers_certificate(shape(*WIDE), shape(*NARROW)), "misses 0400000000 -")
        self.assertEqual(covers_certificate(shape(some("b", 0)), shape(some("b"))), "misses - -")
        self.assertEqual(covers_certificate(shape(CHOICE), shape(some("b", 2))), "misses 00 0")
        self.assertEqual(covers_certificate(shape(("either", "e", [[number("a", low=9)], [some("b")], [some("c")]])), shape(some("b", 2))), "misses 00 1")

    def test_first_path(self):
        inner = ("either", "f", [[number("a", low=9)], [some("b")], [some("c")]])
        self.assertEqual(covers_certificate(shape(some("x"), inner), shape(some("b"))), "misses 0000 1")

    def test_certificates_for_other_shapes(self):
        self.assertIs(check_plain(shape(CHOICE), plain_certificate(shape(*PARTING))), False)
        self.assertIs(check_plain(shape(*PARTING), plain_certificate(shape(CHOICE))), False)
        self.assertIs(check_covers(shape(*WIDE), shape(*NARROW), covers_certificate(shape(*NARROW), shape(*WIDE))), False)

    def test_long_certificates(self):
        made = shape(("repeat", "r", 16, [some("a", 60), ("either", "e", [[number("m", high=3)], [number("o", low=4), some("b")]])]))
        text = plain_certificate(made)
        self.assertIs(check_plain(made, text), True)
        self.assertIs(check_covers(made, made, covers_certificate(made, made)), True)

    def test_tiny_shapes(self):
        right = {"plain": [0, 0], "twice": [0, 0]}
        for seed, (made, found) in enumerate(some_tried()):
            text = plain_certificate(made)
            told = two_ways(made)
            naive = Naive(made.parts)
            if told is not None:
                words = text.split(" ")
                self.assertEqual((words[0], row_of(text)), ("twice", (tuple(told.file), [told.first, told.second])))
                self.assertIs(check_plain(made, text), True)
                right["twice"][1] += 1
                continue
            self.assertIs(naive.is_plain([row_of(line) for line in text.split("\n")[1:]]), True, made.parts)
            for one in [text] + other_texts(text, random.Random(seed)):
                wanted = naive.is_plain([row_of(line) for line in one.split("\n")[1:]])
                self.assertIs(check_plain(made, one), wanted, (made.parts, one))
                right["plain"][wanted] += 1
        self.assertGreater(min(right["plain"]), 30)
        self.assertGreater(right["twice"][1], 15)

    def test_two_tiny_shapes(self):
        right = [0, 0, 0]
        rows = some_tried()
        for seed, (made, found) in enumerate(rows):
            other = made
            if seed % 2 and made.outer_numbers():
                item = made.item(made.outer_numbers()[0])
                other = made.with_item(item[1], item[:4] + (0, item[5]))
            elif seed % 5 == 0:
                other = rows[seed - 1][0]
            text = covers_certificate(made, other)
            file = covers(made, other)
            if file is not None:
                self.assertEqual((text.split(" ")[0], row_of(text)), ("misses", (tuple(file), [paths(made, file)[0]])))
                self.assertIs(check_covers(made, other, text), True)
                right[2] += 1
                continue
            naive = Naive(made.parts, other.parts)
            self.assertIs(naive.is_cover([row_of(line) for line in text.split("\n")[1:]]), True, made.parts)
            for one in [text] + other_texts(text, random.Random(seed)):
                wanted = naive.is_cover([row_of(line) for line in one.split("\n")[1:]])
                self.assertIs(check_covers(made, other, one), wanted, (made.parts, other.parts, one))
                right[wanted] += 1
        self.assertGreater(min(right[:2]), 30)
        self.assertGreater(right[2], 3)

    def test_shapes_at_random(self):
        checked = 0
        for seed in range(120):
            made = shape_at_random(seed)
            if too_many(lambda limit: two_ways(made, limit=limit), 400):
                self.assertTrue(too_many(lambda limit: plain_certificate(made, limit=limit), 400))
                continue
            text = plain_certificate(made, limit=400)
            self.assertEqual(text[:5] == "plain", two_ways(made) is None)
            self.assertIs(check_plain(made, text), True, made.parts)
            checked += 1
        self.assertGreater(checked, 50)


class LimitTest(unittest.TestCase):
    def exactly(self, ask, most):
        self.assertNotIn("many", ask(most))
        for limit in range(1, most):
            self.assertTrue(too_many(ask, limit), (limit, most))

    def test_pairs_of_runs(self):
        for items in (PARTING, NARROW, [some("a", 5)]):
            made = shape(*items)
            lines = plain_certificate(made).split("\n")[1:]
            self.exactly(lambda limit: plain_certificate(made, limit=limit), len(lines))

    def test_runs_beside_runs(self):
        for one, other in ((NARROW, WIDE), (PARTING, PARTING)):
            one, other = shape(*one), shape(*other)
            lines = covers_certificate(one, other).split("\n")[1:]
            self.exactly(lambda limit: covers_certificate(one, other, limit=limit), len(lines))

    def test_usual_limit(self):
        made = shape(number(high=16), ("repeat", "r", "n", [number("m"), some("b", "m"), ("text", "t", 0, 5)]), ("check", "c", 16))
        self.assertTrue(too_many(lambda limit: plain_certificate(made), 2000))
        self.assertTrue(too_many(lambda limit: covers_certificate(made, made), 2000))


if __name__ == "__main__":
    unittest.main()
