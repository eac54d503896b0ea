"""The errors that the program raises."""


class AsifoneError(ValueError):
    """The base class of all errors that the program raises."""


class TextError(AsifoneError):
    """A job text has a fault at this line and column."""

    def __init__(self, line, column, message):
        super().__init__(f"line {line}, column {column}: {message}")
        self.line = line
        self.column = column
        self.message = message


class FileError(AsifoneError):
    """A file of facts cannot be read."""

    def __init__(self, reason):
        super().__init__(str(reason))
        self.reason = reason


class EventError(AsifoneError):
    """An event of a fleet cannot happen."""

    def __init__(self, reason):
        super().__init__(str(reason))
        self.reason = reason
