"""The refusals, each of a class of its own."""


class BallError(ValueError):
    """Any refusal."""


class NoNumber(BallError):
    """A number was due, and this is none of those that are allowed."""


class NotFree(BallError):
    """A free row was due."""


class TooLong(BallError):
    """It takes more steps than are allowed."""


class NoRow(BallError):
    """Nothing is kept by this name."""


class BadNote(BallError):
    """A text or a line is not written as it must be."""
