"""The errors of the program."""


class HeldError(ValueError):
    """What all errors of the program have in common."""


class BadBytes(HeldError):
    """A value that cannot be written, or bytes that cannot be read."""


class BadCall(HeldError):
    """A call that is not allowed."""


class BadSchedule(HeldError):
    """A text that is no schedule; `line` is the number of its first bad line."""

    def __init__(self, line):
        self.line = line
