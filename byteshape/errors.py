"""The errors that the program raises."""


class ByteshapeError(ValueError):
    """The base class of all errors of the program."""


class InvalidShape(ByteshapeError):
    """Items break a rule of shapes."""


class InvalidFile(ByteshapeError):
    """A list is no file."""


class InvalidQuestion(ByteshapeError):
    """A question is asked about something that it is not for."""


class NothingToUndo(ByteshapeError):
    """There is no change to take back."""


class NothingToRedo(ByteshapeError):
    """There is no change to make again."""


class InvalidValue(ByteshapeError):
    """A value cannot be written for the item of this name."""

    def __init__(self, name):
        super().__init__(f"invalid value for {name!r}")
        self.name = name


class InvalidNotation(ByteshapeError):
    """This line, counted from 1, cannot stand in a written form."""

    def __init__(self, line):
        super().__init__(f"line {line} cannot stand where it stands")
        self.line = line


class UnknownName(ByteshapeError):
    """Nothing has this name."""

    def __init__(self, name):
        super().__init__(f"unknown name {name!r}")
        self.name = name


class NotRead(ByteshapeError):
    """A file has no reading: this is the number of its first bytes that some way takes."""

    def __init__(self, place):
        super().__init__(f"not read, taken up to place {place}")
        self.place = place


class TooMany(ByteshapeError):
    """There are more than this limit."""

    def __init__(self, limit):
        super().__init__(f"more than {limit}")
        self.limit = limit


class InvalidCertificate(ByteshapeError):
    """This line, counted from 1, breaks the form of a certificate."""

    def __init__(self, line):
        super().__init__(f"line {line} breaks the form of a certificate")
        self.line = line


class NameInUse(ByteshapeError):
    """Something that is defined still uses this name."""

    def __init__(self, name):
        super().__init__(f"name in use: {name!r}")
        self.name = name
