"""The errors of the program (point 2)."""


class LeatworkError(ValueError):
    """The base class of all errors."""


class BadText(LeatworkError):
    """A line is not the text of a tree."""


class TooMany(LeatworkError):
    """Something would be larger than its bound."""


class Failed(LeatworkError):
    """Nodes cannot be equal."""


class BadProgram(LeatworkError):
    """A program is not good."""


class NotReady(LeatworkError):
    """What is asked for cannot be done now."""
