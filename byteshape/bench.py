"""The workbench: shapes and questions under names, whose changes can be taken back."""

from byteshape.errors import InvalidQuestion, NameInUse, NothingToRedo, NothingToUndo, TooMany, UnknownName
from byteshape.lengths import longest, shortest
from byteshape.machine import LIMIT
from byteshape.twice import two_ways
from byteshape.versions import covers, same_files

# How many shapes the questions of each word are about.
WORDS = {"ways": 1, "shortest": 1, "longest": 1, "covers": 2, "same": 2}


def decide(word, shapes, *, limit=LIMIT):
    """The answer of a question: a word and the list of its shapes."""
    try:
        if word in ("shortest", "longest"):
            return length_answer(word, shapes[0], limit)
        return file_answer(word, shapes, limit)
    except TooMany:
        return ("many", limit)


def length_answer(word, shape, limit):
    """The answer about a length. Raises TooMany."""
    length = shortest(shape, limit=limit) if word == "shortest" else longest(shape, limit=limit)
    return ("nothing",) if length is None else ("length", length)


def file_answer(word, shapes, limit):
    """The answer about whether there is a file of some kind. Raises TooMany."""
    if word == "ways":
        found = two_ways(shapes[0], limit=limit)
        return ("single",) if found is None else ("double", len(found.file))
    one, other = shapes
    if word == "covers":
        file = covers(one, other, limit=limit)
        return ("covers",) if file is None else ("misses", len(file))
    file = same_files(one, other, limit=limit)
    return ("same",) if file is None else ("differs", len(file))


def named(table, name):
    """What a table has under a name. Raises UnknownName."""
    if name not in table:
        raise UnknownName(name)
    return table[name]


def without(table, name):
    """A copy of a table without a name. Raises UnknownName."""
    named(table, name)
    return {one: table[one] for one in table if one != name}


class Board:
    """What is defined at one time. It does not change.

    `shapes` has under each name an entry, the tuple (number of the entry, Shape), and `questions` the
    tuple (word, names of shapes).
    """

    def __init__(self, shapes, questions):
        self.shapes = shapes
        self.questions = questions

    def with_entry(self, name, entry):
        """The board with this entry under the name."""
        return Board({**self.shapes, name: entry}, self.questions)

    def without_shape(self, name):
        """The board without the shape. Raises UnknownName, then NameInUse."""
        left = without(self.shapes, name)
        if any([name in names for _, names in self.questions.values()]):
            raise NameInUse(name)
        return Board(left, self.questions)

    def with_question(self, name, word, names):
        """The board with this question. Raises UnknownName and InvalidQuestion."""
        if word not in WORDS:
            raise UnknownName(word)
        if WORDS[word] != len(names):
            raise InvalidQuestion(f"another number of shapes than {word!r} is about")
        for one in names:
            named(self.shapes, one)
        return Board(self.shapes, {**self.questions, name: (word, tuple(names))})

    def without_question(self, name):
        """The board without the question. Raises UnknownName."""
        return Board(self.shapes, without(self.questions, name))


class Workbench:
    """A workbench. `decided` counts the answers that were computed, `kept` those that were already there."""

    def __init__(self):
        self.decided = 0
        self.kept = 0
        # The boards behind each change, the first one ahead of all changes; those behind the present one
        # were taken back.
        self._boards = [Board({}, {})]
        self._at = 0
        self._entries = 0
        self._known = {}

    def set_shape(self, name, shape):
        """Defines the shape under the name."""
        self.change_all([("set_shape", name, shape)])

    def remove_shape(self, name):
        """Removes the shape. Raises UnknownName, then NameInUse."""
        self.change_all([("remove_shape", name)])

    def replace_item(self, name, item_name, item):
        """Defines the shape anew, with another item. Raises UnknownName, then InvalidShape."""
        self.change_all([("replace_item", name, item_name, item)])

    def remove_item(self, name, item_name):
        """Defines the shape anew, without an item. Raises UnknownName, then InvalidShape."""
        self.change_all([("remove_item", name, item_name)])

    def ask(self, name, *, word, shapes):
        """Defines the question. Raises UnknownName and InvalidQuestion."""
        self.change_all([("ask", name, word, shapes)])

    def drop(self, name):
        """Removes the question. Raises UnknownName."""
        self.change_all([("drop", name)])

    def undo(self):
        """Takes back the last change. Raises NothingToUndo."""
        if self._at == 0:
            raise NothingToUndo("no change to take back")
        self._at -= 1

    def redo(self):
        """Makes the change again that was taken back last. Raises NothingToRedo."""
        if self._at == len(self._boards) - 1:
            raise NothingToRedo("no change to make again")
        self._at += 1

    def change_all(self, changes):
        """Makes all changes of a list, or none of them if one of them raises an error."""
        board = self._board()
        made = []
        for change in changes:
            board = self._behind(board, change)
            made.append(board)
        if made:
            self._boards = self._boards[:self._at + 1] + made
            self._at += len(made)

    def shape_names(self):
        """The names of the shapes in ascending order."""
        return sorted(self._board().shapes)

    def question_names(self):
        """The names of the questions in ascending order."""
        return sorted(self._board().questions)

    def shape(self, name):
        """The Shape of this name. Raises UnknownName."""
        return named(self._board().shapes, name)[1]

    def question(self, name):
        """The tuple (word, names of the shapes) of a question. Raises UnknownName."""
        return named(self._board().questions, name)

    def answer(self, name):
        """The answer of a question. Raises UnknownName."""
        word, names = self.question(name)
        entries = [self._board().shapes[one] for one in names]
        key = (word, tuple([number for number, _ in entries]))
        if key in self._known:
            self.kept += 1
        else:
            self._known[key] = decide(word, [shape for _, shape in entries])
            self.decided += 1
        return self._known[key]

    def answers(self):
        """The tuples (name, answer) of all questions, in ascending order of the names."""
        return [(name, self.answer(name)) for name in self.question_names()]

    def _board(self):
        return self._boards[self._at]

    def _behind(self, board, change):
        """The board behind a change."""
        word, name = change[:2]
        if word == "set_shape":
            return self._with_shape(board, name, change[2])
        if word == "remove_shape":
            return board.without_shape(name)
        if word == "replace_item":
            return self._with_shape(board, name, named(board.shapes, name)[1].with_item(change[2], change[3]))
        if word == "remove_item":
            return self._with_shape(board, name, named(board.shapes, name)[1].without_item(change[2]))
        if word == "ask":
            return board.with_question(name, change[2], change[3])
        return board.without_question(name)

    def _with_shape(self, board, name, shape):
        """The board with a new entry under the name."""
        self._entries += 1
        return board.with_entry(name, (self._entries, shape))
