"""Feeds: points 27, 29 and 30."""

import unittest

from byteshape.errors import InvalidFile, NotRead, TooMany
from byteshape.feed import Feed
from byteshape.machine import Machine
from byteshape.reading import readings
from made import number, shape, some
from shapes_at_random import file_at_random, shape_at_random


def told(feed):
    """All that a feed tells."""
    try:
        found = [(one.path, one.content) for one in feed.finish()]
    except NotRead as error:
        found = error.place
    return (feed.received, feed.ways, feed.can_end(), feed.awaits(), found)


class FeedTest(unittest.TestCase):
    def setUp(self):
        self.shape = shape(number(high=4), some("b", "n"), ("either", "e", [[], [("text", "t", 0, 3)], [some("a", 2)]]))
        self.feed = Feed(self.shape)

    def test_without_bytes(self):
        self.assertIs(self.feed.shape, self.shape)
        self.assertEqual(self.feed.limit, 2000)
        self.assertEqual(Feed(self.shape, limit=7).limit, 7)
        self.assertEqual(told(self.feed), (0, 1, False, ["n"], 0))

    def test_pieces(self):
        self.assertIsNone(self.feed.push([2]))
        self.assertEqual(told(self.feed), (1, 1, False, ["b"], 1))
        self.feed.push([])
        self.assertEqual(told(self.feed), (1, 1, False, ["b"], 1))
        self.feed.push([5, 6])
        self.assertEqual(told(self.feed), (3, 3, True, ["a", "t"], [((0,), [("n", 2), ("b", [5, 6]), ("e", (0, []))])]))
        self.feed.push([1, 0])
        self.assertEqual(told(self.feed), (5, 2, True, [], [
            ((1,), [("n", 2), ("b", [5, 6]), ("e", (1, [("t", [1])]))]),
            ((2,), [("n", 2), ("b", [5, 6]), ("e", (2, [("a", [1, 0])]))])]))

    def test_finish_and_more_bytes(self):
        feed = Feed(shape(("repeat", "r", 2, [("either", "e", [[some("a")], [some("b", 2)]])])))
        with self.assertRaises(NotRead) as caught:
            feed.finish()
        self.assertEqual(caught.exception.place, 0)
        feed.push([1])
        with self.assertRaises(NotRead) as caught:
            feed.finish()
        self.assertEqual(caught.exception.place, 1)
        feed.push([2])
        self.assertEqual([one.path for one in feed.finish()], [(0, 0)])
        feed.push([3])
        self.assertEqual([one.path for one in feed.finish()], [(0, 1), (1, 0)])
        self.assertEqual(feed.awaits(), ["b"])
        feed.push([4])
        self.assertEqual([one.path for one in feed.finish()], [(1, 1)])

    def test_names_that_wait(self):
        block = ("either", "e", [[some("z", 2)], [some("y", 2)], [number("x", 2)], [some("w")]])
        feed = Feed(shape(("repeat", "r", 2, [block])))
        self.assertEqual(feed.awaits(), ["w", "x", "y", "z"])
        feed.push([0])
        self.assertEqual(feed.awaits(), ["w", "x", "y", "z"])
        self.assertEqual(feed.ways, 3 + 4)
        self.assertEqual(feed.can_end(), False)

    def test_ways_in_one_state(self):
        feed = Feed(shape(("either", "e", [[some("a")], [some("b")]]), some("c")))
        feed.push([1])
        self.assertEqual((feed.ways, feed.awaits()), (2, ["c"]))
        feed.push([1])
        self.assertEqual((feed.ways, feed.awaits(), feed.can_end()), (2, [], True))

    def refused(self, error, piece):
        before = told(self.feed)
        with self.assertRaises(error, msg=piece) as caught:
            self.feed.push(piece)
        self.assertEqual(told(self.feed), before)
        return caught.exception

    def test_pieces_that_are_not_read(self):
        self.assertEqual(self.refused(NotRead, [5]).place, 0)
        self.assertEqual(self.refused(NotRead, [0, 1, 2, 3, 4]).place, 4)
        self.feed.push([1, 7])
        self.assertEqual(self.refused(NotRead, [1, 2, 3, 4]).place, 5)
        self.assertEqual(self.refused(NotRead, [1, 0, 0]).place, 4)
        self.feed.push([1, 2, 3])
        self.assertEqual(self.refused(NotRead, [1]).place, 5)
        self.feed.push([0])
        self.assertEqual(self.refused(NotRead, [0]).place, 6)
        self.assertEqual(len(self.feed.finish()), 1)

    def test_pieces_that_are_no_bytes(self):
        for piece in ([256], [-1], [True], [None], ["0"], [1, 2, 256], [5, 256], [99, -1], [0] * 4097):
            self.refused(InvalidFile, piece)
        self.feed.push([1])
        for piece in ([256], [False], [1, 1.0], [0] * 4096):
            self.refused(InvalidFile, piece)

    def test_most_bytes(self):
        feed = Feed(shape(("repeat", "r", 16, [("repeat", "q", 16, [some("b", 64)])])))
        feed.push([0] * 4000)
        with self.assertRaises(InvalidFile):
            feed.push([0] * 97)
        self.assertEqual(feed.received, 4000)
        feed.push([0] * 96)
        self.assertEqual(feed.received, 4096)
        feed.push([])
        with self.assertRaises(InvalidFile):
            feed.push([0])
        self.assertEqual(feed.received, 4096)
        feed = Feed(shape(some(length=0)))
        with self.assertRaises(InvalidFile):
            feed.push([0] * 4097)
        with self.assertRaises(NotRead):
            feed.push([0] * 4096)

    def test_too_many(self):
        made = shape(some("a"), ("either", "e", [[some("b")], [some("c", 2)]]), ("either", "f", [[some("d")], [some("g")]]))
        self.feed = Feed(made, limit=2)
        self.feed.push([1])
        self.assertEqual(self.feed.ways, 2)
        self.assertEqual(self.refused(TooMany, [1]).limit, 2)
        self.assertEqual(self.refused(TooMany, [1, 1, 1, 1, 1]).limit, 2)
        self.assertEqual(self.feed.received, 1)
        self.refused(InvalidFile, [1, 256])
        feed = Feed(made, limit=3)
        feed.push([1, 1])
        self.assertEqual(feed.ways, 3)

    def test_too_many_before_the_first_byte(self):
        made = shape(("either", "e", [[some("a")], [some("b")], [some("c")]]))
        self.assertEqual(Feed(made, limit=3).ways, 3)
        with self.assertRaises(TooMany) as caught:
            Feed(made, limit=2)
        self.assertEqual(caught.exception.limit, 2)

    def test_order_of_the_errors(self):
        made = shape(number(), ("either", "e", [[number("a")], [number("b")]]))
        feed = Feed(made, limit=1)
        with self.assertRaises(NotRead):
            feed.push([99, 1])
        with self.assertRaises(TooMany):
            feed.push([1, 99])

    def test_copies(self):
        piece = [1, 7]
        self.feed.push(piece)
        piece[1] = 9
        piece.append(3)
        self.assertEqual(self.feed.finish()[0].content[1], ("b", [7]))
        self.feed.finish()[0].content[1][1].append(4)
        self.feed.finish().clear()
        self.feed.awaits().clear()
        self.assertEqual(self.feed.finish()[0].content[1], ("b", [7]))
        self.assertEqual(self.feed.awaits(), ["a", "t"])
        piece = [2, 2]
        self.feed.push(piece)
        self.assertEqual(piece, [2, 2])

    def test_pieces_at_random(self):
        for seed in range(80):
            made = shape_at_random(seed)
            data = file_at_random(Machine(made), seed, 30)
            whole = Feed(made)
            whole_error = self.pushed(whole, data)
            for size in (1, 2, 5):
                feed = Feed(made)
                errors = [self.pushed(feed, data[at:at + size]) for at in range(0, len(data), size)]
                errors = [error for error in errors if error is not None]
                self.assertEqual(errors[:1], [] if whole_error is None else [whole_error])
                if whole_error is None:
                    self.assertEqual(told(feed), told(whole))
            if whole_error is None and whole.can_end():
                self.assertEqual(told(whole)[4], [(one.path, one.content) for one in readings(made, data)])

    def pushed(self, feed, piece):
        """The place of the error that a piece raises, or None."""
        try:
            feed.push(piece)
        except NotRead as error:
            return error.place
        return None


if __name__ == "__main__":
    unittest.main()
