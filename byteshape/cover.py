"""Features of files, and suites: few files that have all features together."""

from byteshape.errors import InvalidQuestion, InvalidShape
from byteshape.items import edited
from byteshape.machine import LIMIT, Machine, check_file
from byteshape.search import first_read
from byteshape.shapes import Shape
from byteshape.ways import reads


def item_features(item):
    """The features that an item of the outermost list could have."""
    kind, name = item[:2]
    if kind == "number":
        words = ("least",) if item[4] == item[5] else ("least", "greatest")
        return [(word, name) for word in words]
    if kind == "text":
        return [("empty", name)]
    if kind == "either":
        return [("choice", name, number) for number in range(len(item[2]))]
    if kind == "switch":
        return [("case", name, value) for value, _ in item[3]]
    return []


def narrow_items(item, feature):
    """The items in the place of an item that always have this feature of it."""
    word = feature[0]
    if word == "least":
        return (item[:5] + (item[4],),)
    if word == "greatest":
        return (item[:4] + (item[5], item[5]),)
    if word == "empty":
        return (item[:3] + (0,),)
    if word == "choice":
        return item[2][feature[2]]
    return (item[:3] + (tuple([case for case in item[3] if case[0] == feature[2]]),),)


def narrow_shape(shape, item, feature):
    """The narrow shape of a feature of this item, or None if the items make no shape."""
    try:
        return Shape(edited(shape.parts, item[1], narrow_items(item, feature)))
    except InvalidShape:
        return None


def narrow_shapes(shape):
    """The tuples (feature, narrow shape) of all features of a shape, in their order."""
    rows = [(feature, narrow_shape(shape, item, feature)) for item in shape.parts for feature in item_features(item)]
    return [(feature, narrow) for feature, narrow in rows if narrow is not None]


def features(shape):
    """The list of the features of a shape, in their order."""
    return [feature for feature, _ in narrow_shapes(shape)]


def shape_with(shape, feature):
    """The narrow shape of a feature. Raises InvalidQuestion."""
    for one, narrow in narrow_shapes(shape):
        # True and False are equal to 1 and 0, but they are no numbers.
        if one == feature and not any([isinstance(part, bool) for part in feature]):
            return narrow
    raise InvalidQuestion("no feature of the shape")


def has_feature(shape, file, feature):
    """Tells whether a file has a feature. Raises InvalidQuestion, then InvalidFile."""
    narrow = shape_with(shape, feature)
    check_file(file)
    return reads(Machine(narrow), file)


def feature_file(shape, feature, *, limit=LIMIT):
    """The first file with a feature, or None. Raises InvalidQuestion, then TooMany."""
    return first_read(shape_with(shape, feature), limit=limit)


def wanted_rows(shape, limit):
    """The tuples (feature, machine of the narrow shape, first file) of the wanted features. Raises TooMany."""
    rows = [(feature, narrow, first_read(narrow, limit=limit)) for feature, narrow in narrow_shapes(shape)]
    return [(feature, Machine(narrow), file) for feature, narrow, file in rows if file is not None]


def feature_files(shape, *, limit=LIMIT):
    """The list of the tuples (feature, first file) of the wanted features. Raises TooMany."""
    return [(feature, file) for feature, _, file in wanted_rows(shape, limit)]


class Coverage:
    """The files of a list beside the wanted features.

    `has` tells for each file which of the features it has, `many` for each feature how many files have it.
    """

    def __init__(self, wanted):
        self._machines = [machine for _, machine, _ in wanted]
        self.has = []
        self.many = [0 for _ in wanted]

    def include(self, file):
        """Adds a file to the list."""
        row = [1 if reads(machine, file) else 0 for machine in self._machines]
        self.has.append(row)
        self.many = [many + one for many, one in zip(self.many, row)]

    def is_needed(self, at):
        """Tells whether the file at this place is the only one with some feature."""
        return any([one == 1 and many == 1 for one, many in zip(self.has[at], self.many)])

    def leave_out(self, at):
        """No longer counts the features of the file at this place."""
        self.many = [many - one for many, one in zip(self.many, self.has[at])]


def file_suite(shape, *, limit=LIMIT):
    """The suite of a shape, a list of files. Raises TooMany."""
    wanted = wanted_rows(shape, limit)
    coverage = Coverage(wanted)
    files = []
    for at, (_, _, file) in enumerate(wanted):
        if coverage.many[at] == 0:
            files.append(file)
            coverage.include(file)
    left = []
    for at, file in enumerate(files):
        if coverage.is_needed(at):
            left.append(file)
        else:
            coverage.leave_out(at)
    return left


def check_file_suite(shape, files, *, limit=LIMIT):
    """Tells whether a list of files is right. Raises InvalidFile, then TooMany."""
    for file in files:
        check_file(file)
    coverage = Coverage(wanted_rows(shape, limit))
    for file in files:
        coverage.include(file)
    return 0 not in coverage.many and all([coverage.is_needed(at) for at in range(len(files))])
