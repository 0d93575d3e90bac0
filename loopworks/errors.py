"""The errors that loopworks raises."""


class WorkError(ValueError):
    """The base of all errors."""


class TextFault(WorkError):
    """A text has a fault: the place of the sign or character, and the reason."""

    def __init__(self, line, column, reason):
        super().__init__(f"line {line}, column {column}: {reason}")
        self.line = line
        self.column = column
        self.reason = reason


class TooLarge(WorkError):
    """A program or a schedule is beyond a limit."""


class Outside(WorkError):
    """Sizes are not in the context."""


class TooMany(WorkError):
    """There are more instances, points, values or constraints than are allowed."""


class TooGreat(WorkError):
    """A number is greater than is allowed."""


class BadFolding(WorkError):
    """A folding does not fit its program."""


class InvalidSystem(WorkError):
    """A row of a system is no constraint over its variables."""


class InvalidPoint(WorkError):
    """A point is no point of the system that it is used with."""


class NotArranged(WorkError):
    """A bench has no schedule."""


class StepFails(WorkError):
    """A step cannot be taken: its number, from 0."""

    def __init__(self, index):
        super().__init__(f"step {index} cannot be taken")
        self.index = index
