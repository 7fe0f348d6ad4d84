"""Streams: points 91 to 95."""

import itertools
import random
import unittest

from brute import Tried, some_tried
from byteshape.errors import InvalidFile, TooMany
from byteshape.reading import is_read
from byteshape.shapes import Shape
from byteshape.streams import chunks, count_cuts, cuts, ends
from made import NO_FILES, number, shape, some, too_many

LINE = Shape([("text", "t", 0, 4)])
PAIR = Shape([("either", "e", [[("bytes", "a", 1)], [("bytes", "b", 2)]])])
EMPTY = Shape([("bytes", "b", 0)])
MAYBE = Shape([("either", "e", [[], [("bytes", "a", 1)]])])


def ends_plainly(made, stream, start):
    """The ends from a place, by reading all that stands behind it."""
    return [end for end in range(start, len(stream) + 1) if is_read(made, stream[start:end])]


def cuts_plainly(shapes, stream, start=0):
    """All cuts from a place on."""
    if not shapes:
        return [()] if start == len(stream) else []
    found = []
    for end in ends_plainly(shapes[0], stream, start):
        found += [(end,) + rest for rest in cuts_plainly(shapes[1:], stream, end)]
    return found


def divided_plainly(made, stream, start=0):
    """All ways to divide the rest of a stream into files that are not empty."""
    if start == len(stream):
        return [[]]
    found = []
    for end in ends_plainly(made, stream, start):
        if end > start:
            found += [[end] + rest for rest in divided_plainly(made, stream, end)]
    return found


def most_states(made, stream, start):
    """The greatest number of different states behind some bytes from a place."""
    return max(len(Tried(made.parts, stream[start:end]).states) for end in range(start, len(stream) + 1))


class EndsTest(unittest.TestCase):
    def check(self, made, stream, start, wanted):
        given = list(stream)
        self.assertEqual(ends(made, given, start=start), wanted, (made.parts, stream, start))
        self.assertEqual(given, stream)
        self.assertEqual(ends_plainly(made, stream, start), wanted)

    def test_starts(self):
        stream = [1, 5, 0, 2, 7, 8]
        made = shape(number(high=2), some("b", "n"))
        self.check(made, stream, 0, [2])
        self.check(made, stream, 1, [])
        self.check(made, stream, 2, [3])
        self.check(made, stream, 3, [6])
        self.check(made, stream, 5, [])
        self.check(made, stream, 6, [])
        self.assertEqual(ends(made, stream), [2])

    def test_several_ends(self):
        self.check(PAIR, [7, 8, 9], 0, [1, 2])
        self.check(PAIR, [7, 8, 9], 1, [2, 3])
        self.check(PAIR, [7, 8, 9], 2, [3])
        self.check(PAIR, [7, 8, 9], 3, [])
        made = shape(number("n", high=3), ("either", "e", [[some("a", "n")], [some("b", 2)], [("text", "t", 9, 5)]]))
        self.check(made, [1, 4, 4, 9, 9], 0, [2, 3, 4])

    def test_empty_files(self):
        for start in range(4):
            self.check(EMPTY, [1, 2, 3], start, [start])
            self.check(MAYBE, [1, 2, 3], start, [start, start + 1] if start < 3 else [3])
        self.check(EMPTY, [], 0, [0])
        self.check(PAIR, [], 0, [])

    def test_sums_begin_anew(self):
        made = shape(some("a", 2), ("check", "c", 16))
        stream = [9, 1, 2, 3, 200, 5, 13]
        self.check(made, stream, 1, [4])
        self.check(made, stream, 4, [7])
        self.check(made, stream, 0, [])

    def test_places_begin_anew(self):
        made = shape(number(high=3), some("b", "n"), ("pad", "p", 4, 7))
        stream = [7, 1, 5, 7, 7, 3, 1, 1, 1]
        self.check(made, stream, 1, [5])
        self.check(made, stream, 5, [9])
        self.check(made, stream, 0, [])

    def test_ends_begin_anew(self):
        self.check(LINE, [5, 0, 5, 5, 0], 0, [2])
        self.check(LINE, [5, 0, 5, 5, 0], 2, [5])
        self.check(LINE, [5, 5, 5, 5, 5, 0], 0, [])
        self.check(LINE, [5, 5, 5, 5, 5, 0], 1, [6])

    def test_long_streams(self):
        stream = [1, 2] * 2048
        self.assertEqual(ends(PAIR, stream, start=4094), [4095, 4096])
        self.assertEqual(ends(shape(("repeat", "r", 16, [("repeat", "q", 16, [some("b", 16)])])), stream), [4096])

    def test_tiny_shapes(self):
        met = 0
        for seed, (made, found) in enumerate(some_tried()):
            chance = random.Random(seed)
            for _ in range(4):
                stream = [byte for file in chance.choices(list(found), k=3) for byte in file][:14]
                for start in range(len(stream) + 1):
                    wanted = ends_plainly(made, stream, start)
                    self.assertEqual(ends(made, stream, start=start), wanted, (made.parts, stream, start))
                    met += len(wanted) > 1
        self.assertGreater(met, 50)


class CutsTest(unittest.TestCase):
    def check(self, shapes, stream, wanted):
        given, told = list(stream), list(shapes)
        self.assertEqual(cuts(told, given), wanted)
        self.assertEqual(count_cuts(told, given), len(wanted))
        self.assertEqual((given, told), (stream, shapes))
        self.assertEqual(cuts_plainly(shapes, stream), wanted)

    def test_example(self):
        self.check([LINE, PAIR], [7, 0, 5, 6], [(2, 4)])
        self.check([PAIR, PAIR], [1, 2, 3], [(1, 3), (2, 3)])

    def test_no_shapes(self):
        self.check([], [], [()])
        self.check([], [1], [])
        self.check([], [1, 2], [])

    def test_one_shape(self):
        self.check([PAIR], [1], [(1,)])
        self.check([PAIR], [1, 2], [(2,)])
        self.check([PAIR], [1, 2, 3], [])
        self.check([PAIR], [], [])
        self.check([EMPTY], [], [(0,)])

    def test_several_shapes(self):
        self.check([PAIR, PAIR, PAIR], [1, 2, 3, 4], [(1, 2, 4), (1, 3, 4), (2, 3, 4)])
        self.check([PAIR, LINE, PAIR], [1, 0, 0, 4], [(1, 2, 4), (2, 3, 4)])
        self.check([LINE, LINE], [0, 0], [(1, 2)])
        self.check([LINE, LINE], [0, 0, 0], [])

    def test_empty_files(self):
        self.check([EMPTY, PAIR, EMPTY], [1], [(0, 1, 1)])
        self.check([MAYBE, MAYBE], [1], [(0, 1), (1, 1)])
        self.check([MAYBE, MAYBE, MAYBE], [], [(0, 0, 0)])
        self.check([MAYBE, EMPTY, MAYBE], [1, 2], [(1, 1, 2)])

    def test_no_cuts(self):
        self.check([LINE, PAIR], [7, 7, 7], [])
        self.check([PAIR, LINE], [7, 7, 7], [])
        self.check([PAIR], [7, 7, 7], [])
        self.check([PAIR, LINE, PAIR], [0, 0], [])

    def test_exact_counts(self):
        self.assertEqual(count_cuts([PAIR] * 40, [5] * 60), 137846528820)
        self.assertEqual(count_cuts([MAYBE] * 300, [5] * 150), count_plainly(300, 150))
        self.assertEqual(count_cuts([PAIR] * 5, [5] * 11), 0)

    def test_few_cuts_of_many_ways(self):
        # Nearly all ways to begin lead nowhere.
        self.assertEqual(cuts([PAIR] * 30 + [shape(number(low=9))], [5] * 60 + [9]), [tuple(range(2, 61, 2)) + (61,)])

    def test_tiny_shapes(self):
        rows = some_tried()
        met = [0, 0, 0]
        for seed in range(60):
            chance = random.Random(seed)
            chosen = chance.choices(rows, k=chance.randint(1, 3))
            stream = [byte for made, found in chosen for byte in chance.choice([one.file for one in found.values() if one.readings] or [[1]])][:12]
            shapes = [made for made, _ in chosen]
            wanted = cuts_plainly(shapes, stream)
            self.assertEqual(cuts(shapes, stream), wanted)
            self.assertEqual(count_cuts(shapes, stream), len(wanted))
            met[min(len(wanted), 2)] += 1
        self.assertGreater(min(met), 3)

    def test_answers_are_new(self):
        cuts([PAIR], [1]).clear()
        ends(PAIR, [1]).clear()
        chunks(PAIR, [1]).clear()
        self.assertEqual((cuts([PAIR], [1]), ends(PAIR, [1]), chunks(PAIR, [1])), ([(1,)], [1], [1]))


def count_plainly(many, chosen):
    """In how many ways some of many can be chosen."""
    found = 1
    for k in range(chosen):
        found = found * (many - k) // (k + 1)
    return found


class ChunksTest(unittest.TestCase):
    def check(self, made, stream, wanted):
        given = list(stream)
        self.assertEqual(chunks(made, given), wanted, (made.parts, stream))
        self.assertEqual(given, stream)

    def test_fewest_files(self):
        self.check(PAIR, [1, 2, 3], [1, 3])
        self.check(PAIR, [1, 2, 3, 4], [2, 4])
        self.check(PAIR, [1], [1])
        self.check(LINE, [5, 0, 0, 7, 7, 0], [2, 3, 6])

    def test_first_places_of_the_fewest(self):
        made = shape(("either", "e", [[some("a", 1)], [some("b", 2)], [some("c", 5)]]))
        self.check(made, [0] * 6, [1, 6])
        self.check(made, [0] * 8, [1, 3, 8])
        made = shape(("either", "e", [[some("a", 3)], [some("b", 2)]]))
        self.check(made, [0] * 5, [2, 5])
        self.check(made, [0] * 7, [2, 4, 7])
        self.check(made, [0] * 11, [2, 5, 8, 11])

    def test_no_way(self):
        made = shape(("either", "e", [[some("a", 3)], [some("b", 2)]]))
        self.check(made, [0], None)
        self.check(LINE, [5, 0, 5], None)
        self.check(LINE, [5, 5, 5, 5, 5, 0], None)
        self.check(EMPTY, [5], None)

    def test_empty_streams_and_files(self):
        for made in (PAIR, LINE, EMPTY, MAYBE):
            self.check(made, [], [])
        self.check(MAYBE, [5, 5, 5], [1, 2, 3])

    def test_long_streams(self):
        self.check(PAIR, [7] * 4096, list(range(2, 4097, 2)))
        self.check(PAIR, [7] * 4095, [1] + list(range(3, 4096, 2)))
        self.check(LINE, [7, 0] * 2048, list(range(2, 4097, 2)))

    def test_tiny_shapes(self):
        met = [0, 0, 0]
        for seed, (made, found) in enumerate(some_tried()):
            chance = random.Random(seed)
            files = [one.file for one in found.values() if one.readings and one.file]
            for _ in range(4 if files else 0):
                stream = [byte for file in chance.choices(files, k=chance.randint(1, 4)) for byte in file][:11]
                ways = divided_plainly(made, stream)
                self.assertEqual(chunks(made, stream), min(ways, key=lambda way: (len(way), way)) if ways else None, (made.parts, stream))
                met[min(len(ways), 2)] += 1
        self.assertGreater(min(met), 10)


class NoStreamTest(unittest.TestCase):
    def test_lists_that_are_no_streams(self):
        many = shape(("either", "e", [[some("a")], [some("b", 2)], [some("c", 3)]]))
        for stream in NO_FILES:
            for ask in (lambda: ends(many, stream, limit=1), lambda: count_cuts([many], stream, limit=1), lambda: count_cuts([], stream),
                        lambda: cuts([many], stream, limit=1), lambda: cuts([], stream), lambda: chunks(many, stream, limit=1)):
                with self.assertRaises(InvalidFile):
                    ask()


class LimitTest(unittest.TestCase):
    STEPS = shape(number(high=3), ("repeat", "r", "n", [("either", "e", [[some("a")], [some("b", 2)]])]), some("z"))

    def exactly(self, ask, most):
        ask(most)
        for limit in range(1, most):
            self.assertTrue(too_many(ask, limit), (limit, most))

    def test_ends(self):
        for stream in ([1, 5, 5, 5], [3, 5, 5, 5, 5, 5, 5, 5, 5], [3, 5, 5], [0, 5, 3, 5, 5, 5, 5], [6, 6]):
            for start in range(len(stream) + 1):
                most = most_states(self.STEPS, stream, start)
                self.exactly(lambda limit: ends(self.STEPS, stream, start=start, limit=limit), most)

    def test_ends_for_no_bytes(self):
        made = shape(("either", "e", [[some("a")], [some("b", 2)], [number()]]))
        for stream, start in (([], 0), ([1], 1), ([1, 2], 0)):
            self.exactly(lambda limit: ends(made, stream, start=start, limit=limit), 3)

    def test_places_behind_the_last_end_count(self):
        made = shape(("either", "e", [[number("a", high=0)], [number("b", high=1), ("either", "f", [[some("c")], [some("d", 2)], [some("g", 3)]])]]))
        self.exactly(lambda limit: ends(made, [0, 5], limit=limit), 4)
        self.exactly(lambda limit: cuts([made, PAIR], [0, 5], limit=limit), 4)

    def test_starts_that_are_come_to(self):
        # From 1 there are more states than from 0 or 2.
        stream = [0, 3, 5, 5, 5, 5, 5]
        sizes = [most_states(self.STEPS, stream, start) for start in range(len(stream) + 1)]
        self.assertGreater(sizes[1], max(sizes[:1] + sizes[2:]))
        one = shape(some("o", 1))
        two = shape(some("p", 2))
        for ask in (count_cuts, cuts):
            self.exactly(lambda limit: ask([self.STEPS], stream, limit=limit), sizes[0])
            self.exactly(lambda limit: ask([one, self.STEPS], stream, limit=limit), sizes[1])
            self.exactly(lambda limit: ask([two, self.STEPS], stream, limit=limit), sizes[2])
            # It is come to place 1, though no cut leads there.
            self.exactly(lambda limit: ask([PAIR, self.STEPS, one, one, one], stream, limit=limit), sizes[1])
            self.exactly(lambda limit: ask([one, one, self.STEPS], stream, limit=limit), sizes[2])
            self.exactly(lambda limit: ask([shape(number(low=5)), self.STEPS], stream, limit=limit), 1)
        self.exactly(lambda limit: chunks(self.STEPS, stream, limit=limit), sizes[1])
        self.assertTrue(too_many(lambda limit: chunks(self.STEPS, [0, 5] + stream, limit=limit), sizes[1] - 1))

    def test_chunks_from_places_that_no_chunk_begins_at(self):
        made = shape(number(low=2, high=2), ("either", "e", [[some("a", 2)], [some("b", 3), some("c")]]))
        self.assertEqual(chunks(made, [2, 2, 2], limit=2), [3])
        begin = shape(("either", "e", [[number("a", low=1, high=1), some("x", 2)], [number("b", low=7, high=7), ("either", "f", [[some("d", 2)], [some("g", 3)], [
            some("h", 4)]])]]))
        self.assertEqual(chunks(begin, [1, 6, 6], limit=2), [3])
        self.exactly(lambda limit: chunks(begin, [1, 7, 6], limit=limit), 3)

    def test_an_empty_stream_has_no_chunks(self):
        made = shape(("either", "e", [[some("a")], [some("b", 2)], [some("c", 3)]]))
        self.assertEqual(chunks(made, [], limit=1), [])

    def test_more_cuts_than_the_limit(self):
        shapes = [PAIR] * 8
        many = count_cuts(shapes, [5] * 12)
        self.assertEqual(many, 70)
        self.exactly(lambda limit: cuts(shapes, [5] * 12, limit=limit), many)
        self.assertEqual(count_cuts(shapes, [5] * 12, limit=2), many)
        self.assertTrue(too_many(lambda limit: count_cuts(shapes, [5] * 12, limit=limit), 1))

    def test_usual_limit(self):
        self.assertEqual(len(cuts([PAIR] * 13, [5] * 18)), 1287)
        self.assertTrue(too_many(lambda limit: cuts([PAIR] * 40, [5] * 60), 2000))
        self.assertTrue(too_many(lambda limit: cuts([PAIR] * 14, [5] * 20), 2000))

    def test_tiny_shapes(self):
        for seed, (made, found) in enumerate(some_tried()):
            chance = random.Random(seed)
            stream = [byte for file in chance.choices(list(found), k=3) for byte in file][:9]
            sizes = [most_states(made, stream, start) for start in range(len(stream) + 1)]
            for start, most in itertools.islice(enumerate(sizes), 3):
                self.exactly(lambda limit: ends(made, stream, start=start, limit=limit), most)
            self.exactly(lambda limit: chunks(made, stream, limit=limit), max(sizes[:-1], default=1))
            begin = ends_plainly(made, stream, 0)
            self.exactly(lambda limit: count_cuts([made, made], stream, limit=limit), max(sizes[:1] + [sizes[end] for end in begin]))

    def test_too_many_ahead_of_none(self):
        with self.assertRaises(TooMany):
            chunks(self.STEPS, [3, 9, 9], limit=1)


if __name__ == "__main__":
    unittest.main()
