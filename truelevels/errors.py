"""The errors that truelevels raises."""


class LevelError(ValueError):
    """The base class of all errors of truelevels."""


class BadNet(LevelError):
    """A net, its text, or a thing that belongs to a net is refused."""

    def __init__(self, line, reason):
        self.line = line
        self.reason = reason


class BadEntry(LevelError):
    """An entry of a log is none, or cannot be done."""

    def __init__(self, place):
        self.place = place


class BadState(LevelError):
    """A question is refused as things stand."""
