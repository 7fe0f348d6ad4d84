"""The forms of certificates: their lines are written and taken apart here.

A row is what a line tells behind its first word: the tuple of a file and the list of its paths.
"""

from byteshape.errors import InvalidCertificate
from byteshape.machine import LONGEST_FILE

NOTHING = "-"
HEX_DIGITS = "0123456789abcdef"
CHOICES = ("0", "1", "2", "3")


class Form:
    """The words of the certificates of one kind, and the number of the paths in a line."""

    def __init__(self, whole, line, single, paths):
        self.whole = whole
        self.line = line
        self.single = single
        self.paths = paths


def about_one():
    """The form of the certificates about one shape."""
    return Form("plain", "pair", "twice", 2)


def about_two():
    """The form of the certificates about two shapes."""
    return Form("covers", "run", "misses", 1)


def line_text(word, row):
    """The line of a row."""
    file, paths = row
    digits = "".join([f"{byte:02x}" for byte in file])
    words = [".".join([str(number) for number in path]) for path in paths]
    return " ".join([word] + [one if one != "" else NOTHING for one in [digits] + words])


def file_told(word):
    """The file that a word writes, or None."""
    if word == NOTHING:
        return []
    if len(word) % 2 == 1 or not 2 <= len(word) <= 2 * LONGEST_FILE or not all([one in HEX_DIGITS for one in word]):
        return None
    return [int(word[at:at + 2], 16) for at in range(0, len(word), 2)]


def path_told(word):
    """The path that a word writes, or None."""
    if word == NOTHING:
        return ()
    parts = word.split(".")
    if not all([part in CHOICES for part in parts]):
        return None
    return tuple([int(part) for part in parts])


def row_told(line, word, paths):
    """The row of a line that has this first word and so many paths, or None."""
    words = line.split(" ")
    if words[0] != word or len(words) != paths + 2:
        return None
    file = file_told(words[1])
    found = [path_told(one) for one in words[2:]]
    return None if file is None or None in found else (file, found)


def certificate_told(text, form):
    """The tuple (whole, rows) of a text: whole tells whether it is no certificate of one line.

    Raises InvalidCertificate.
    """
    lines = text.split("\n")
    whole = lines[0] == form.whole
    first = 1 if whole else 0
    rows = []
    for at, line in enumerate(lines[first:]):
        row = row_told(line, form.line if whole else form.single, form.paths)
        if row is None or (at > 0 and not whole):
            raise InvalidCertificate(first + at + 1)
        rows.append(row)
    return (whole, rows)
