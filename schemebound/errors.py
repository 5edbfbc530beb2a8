"""The errors that the program raises.

The messages hold none of the numbers that are at fault: these may be too long to be written with digits.
"""


class SchemeboundError(ValueError):
    """The base class of all errors of the program."""


class InvalidScheme(SchemeboundError):
    """A tree is that of no scheme."""


class InvalidLot(SchemeboundError):
    """Some points are no lot."""


class InvalidQuestion(SchemeboundError):
    """A question cannot be asked of this scheme, or with these numbers."""


class NothingToUndo(SchemeboundError):
    """There is no change to take back."""


class NothingToRedo(SchemeboundError):
    """There is no change to make again."""


class UnknownPoint(SchemeboundError):
    """A scheme does not have the point `point`."""

    def __init__(self, point):
        SchemeboundError.__init__(self, "the scheme has no such point")
        self.point = point


class UnknownName(SchemeboundError):
    """Nothing has the name `name`."""

    def __init__(self, name):
        SchemeboundError.__init__(self, "nothing has this name")
        self.name = name


class InvalidNotation(SchemeboundError):
    """The line `line` of a text, counted from 1, cannot stand where it stands."""

    def __init__(self, line):
        SchemeboundError.__init__(self, "a line cannot stand where it stands")
        self.line = line


class InvalidPaper(SchemeboundError):
    """The line `line` of a paper, counted from 1, cannot stand where it stands."""

    def __init__(self, line):
        SchemeboundError.__init__(self, "a line of the paper cannot stand where it stands")
        self.line = line


class TooMany(SchemeboundError):
    """There are more things than the limit `limit` lets."""

    def __init__(self, limit):
        SchemeboundError.__init__(self, "there are more than the limit lets")
        self.limit = limit


class NameInUse(SchemeboundError):
    """Something is still about what has the name `name`."""

    def __init__(self, name):
        SchemeboundError.__init__(self, "the name is in use")
        self.name = name
