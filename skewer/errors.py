"""The errors of the program, one class for each kind of failure."""


class SkewerError(ValueError):
    """The base class of all errors that the program raises."""


class TextError(SkewerError):
    """A text is not written as it must be; lines and columns count from 1."""

    def __init__(self, line, column, reason):
        super().__init__(f"line {line}, column {column}: {reason}")
        self.line = line
        self.column = column
        self.reason = reason


class TooLarge(SkewerError):
    """Something has grown beyond a limit."""

    def __init__(self, limit):
        super().__init__(f"too large: {limit}")
        self.limit = limit


class InvalidMove(SkewerError):
    """The tuple with this index in a list is no move there."""

    def __init__(self, index):
        super().__init__(f"no move at index {index}")
        self.index = index


class InvalidGame(SkewerError):
    """A game does not fit another one."""

    def __init__(self, reason):
        super().__init__(f"the game does not fit: {reason}")
        self.reason = reason


class InvalidLine(SkewerError):
    """A line is none that a desk takes."""

    def __init__(self, line):
        super().__init__(f"no line for a desk: {line!r}")
        self.line = line


class UnknownPosition(SkewerError):
    """Nothing is known of this position."""

    def __init__(self, position):
        super().__init__(f"unknown position: {position!r}")
        self.position = position


class InvalidPosition(SkewerError):
    """This is no position of the game."""

    def __init__(self, position):
        super().__init__(f"invalid position: {position!r}")
        self.position = position
