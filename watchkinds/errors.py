"""The errors of the package, one class for each kind of failure."""


class WatchError(ValueError):
    """A value that cannot stand where it was passed."""


class InvalidWord(WatchError):
    """What should be a word is none."""


class InvalidMachine(WatchError):
    """What should be a machine is none."""


class InvalidBox(WatchError):
    """What should be a box is none."""


class InvalidOperation(WatchError):
    """The values cannot be taken together, or one of them is of no kind that is let."""


class ParseError(WatchError):
    """A text of which the line with this index cannot stand there."""

    def __init__(self, line):
        self.line = line


class UnknownName(KeyError):
    """Nothing has this name."""

    def __init__(self, name):
        self.name = name


class InvalidNumber(RuntimeError):
    """What should be a number within its bounds is none."""

    def __init__(self, value):
        self.value = value


class TooMany(OverflowError):
    """There would be more than this limit lets."""

    def __init__(self, limit):
        self.limit = limit


class NothingToUndo(IndexError):
    """There are not so many changes to take back, or to do again."""

    def __init__(self, many):
        self.many = many


class Refused(ArithmeticError):
    """The call is not let at present, for this reason."""

    def __init__(self, reason):
        self.reason = reason
