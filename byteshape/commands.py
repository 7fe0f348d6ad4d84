"""The words of the commands of a session."""

from byteshape.rules import GREATEST_BYTE
from byteshape.shapes import DIGITS, is_name

MOST_DIGITS = 3
# How many names stand behind the word of a command.
NAMES = {"shape": 1, "cut": 2, "drop": 1, "remove": 1, "undo": 0, "redo": 0, "answer": 1, "answers": 0, "print": 1}
SHOWN = ("shapes", "questions")


def split_words(line):
    """The words of a line: its parts between spaces that are not empty."""
    return [word for word in line.split(" ") if word != ""]


def is_byte_word(word):
    """Tells whether a word writes a byte."""
    if not 1 <= len(word) <= MOST_DIGITS or not all([one in DIGITS for one in word]):
        return False
    return (word == "0" or word[0] != "0") and int(word) <= GREATEST_BYTE


def are_names(words):
    """Tells whether all words are names."""
    return all([is_name(word) for word in words])


def is_command(words):
    """Tells whether some words, a list that is not empty, are a command."""
    word, rest = words[0], words[1:]
    if word == "ask":
        return len(rest) >= 3 and are_names(rest)
    if word == "show":
        return len(rest) == 1 and rest[0] in SHOWN
    if word == "read":
        return are_names(rest[:1]) and len(rest) >= 1 and all([is_byte_word(one) for one in rest[1:]])
    return word in NAMES and len(rest) == NAMES[word] and are_names(rest)
