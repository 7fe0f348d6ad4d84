"""Sessions: a workbench that is used by lines of text."""

from byteshape.bench import Workbench
from byteshape.commands import is_command, split_words
from byteshape.errors import InvalidFile, InvalidNotation, InvalidQuestion, InvalidShape, NameInUse, NothingToRedo
from byteshape.errors import NothingToUndo, NotRead, TooMany, UnknownName
from byteshape.faults import fault
from byteshape.notation import format_shape, parse_shape
from byteshape.reading import paths


def told(first, parts):
    """The line of a first word and parts, each behind a space."""
    return " ".join([first] + [str(part) for part in parts])


class Session:
    """A session. `bench` is its Workbench."""

    def __init__(self):
        self.bench = Workbench()
        # The name of the shape whose block is open, and the lines that were taken in it.
        self._name = None
        self._lines = []

    def run(self, text):
        """Does the lines of a text in order; returns the list of the lines that they answer."""
        found = []
        for at, line in enumerate(text.split("\n")):
            words = split_words(line)
            if words:
                found.extend(self._answered(words, f"line {at + 1}"))
        return found

    def _answered(self, words, place):
        """The lines that the words of one line answer, with errors told as lines, too."""
        try:
            if self._name is None and not is_command(words):
                return [f"{place}: invalid command"]
            return self._done(words)
        except UnknownName as unknown:
            return [f"{place}: unknown name {unknown.name}"]
        except NameInUse as used:
            return [f"{place}: name in use {used.name}"]
        except InvalidNotation as broken:
            return [f"{place}: invalid notation {broken.line}"]
        except InvalidShape:
            return [f"{place}: invalid shape"]
        except InvalidFile:
            return [f"{place}: invalid file"]
        except InvalidQuestion:
            return [f"{place}: invalid question"]
        except TooMany:
            return [f"{place}: too many"]
        except NothingToUndo:
            return [f"{place}: nothing to undo"]
        except NothingToRedo:
            return [f"{place}: nothing to redo"]

    def _done(self, words):
        """Does what a line says; returns the lines that it answers."""
        if self._name is not None:
            return self._in_block(words)
        word, rest = words[0], words[1:]
        if word == "answer":
            return [told(rest[0] + ":", self.bench.answer(rest[0]))]
        if word == "answers":
            return [told(name + ":", answer) for name, answer in self.bench.answers()]
        if word == "show":
            names = self.bench.shape_names() if rest[0] == "shapes" else self.bench.question_names()
            return [told(rest[0] + ":", names)]
        if word == "print":
            return format_shape(self.bench.shape(rest[0])).split("\n")
        if word == "read":
            return [self._read(rest[0], [int(one) for one in rest[1:]])]
        self._change(word, rest)
        return ["ok"]

    def _in_block(self, words):
        """Takes a line of a block, or closes the block."""
        if words != ["done"]:
            self._lines.append(" ".join(words))
            return []
        name, lines = self._name, self._lines
        self._name = None
        self._lines = []
        self.bench.set_shape(name, parse_shape("\n".join(lines)))
        return ["ok"]

    def _change(self, word, rest):
        """Does a command that answers nothing but that it was done."""
        if word == "shape":
            self._name = rest[0]
        elif word == "cut":
            self.bench.remove_item(rest[0], rest[1])
        elif word == "ask":
            self.bench.ask(rest[0], word=rest[1], shapes=rest[2:])
        elif word == "drop":
            self.bench.drop(rest[0])
        elif word == "remove":
            self.bench.remove_shape(rest[0])
        elif word == "undo":
            self.bench.undo()
        else:
            self.bench.redo()

    def _read(self, name, file):
        """The line about the readings of a file, or about its fault."""
        shape = self.bench.shape(name)
        try:
            many = len(paths(shape, file))
        except NotRead:
            found = fault(shape, file)
            return told(f"{name}: fault {found.place}", found.awaited)
        return f"{name}: read {many}"
