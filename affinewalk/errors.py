"""The errors of the program.

No class makes a message of its fields: they may have any values, also such as cannot be shown.
"""


class InvalidText(ValueError):
    """A text is not the text of anything; the line is the one where this is seen."""

    def __init__(self, line):
        self.line = line


class InvalidStep(ValueError):
    """A step cannot be taken."""

    def __init__(self, reason):
        self.reason = reason


class InvalidPath(ValueError):
    """A path cannot be followed; the index is that of the first step or item that stops it."""

    def __init__(self, index, reason):
        self.index = index
        self.reason = reason


class UnknownName(KeyError):
    """Nothing has this name."""

    def __init__(self, name):
        self.name = name


class OutOfRange(IndexError):
    """An index, or what stands in its place, belongs to nothing."""

    def __init__(self, value):
        self.value = value


class NothingLeft(LookupError):
    """There is nothing to undo or to redo."""

    def __init__(self, action):
        self.action = action


class TooLong(OverflowError):
    """A result would be longer than its limit."""

    def __init__(self, limit):
        self.limit = limit
