"""The errors that the program raises."""


class TriremeError(ValueError):
    """The base class of all errors of the program."""


class LimitError(TriremeError):
    """Something is longer, greater or more than the limits allow."""


class ParseError(TriremeError):
    """A line of a text, counted from 0, has not the form of a program."""

    def __init__(self, line):
        super().__init__(f"line {line} has not the form of a program")
        self.line = line
