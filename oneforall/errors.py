"""The errors that the program raises."""


class StreamError(ValueError):
    """Any error of the program."""

    def __init__(self, value):
        self.value = value


class InvalidNumber(StreamError):
    """A number that is too small for what it counts."""

    def __init__(self, value):
        self.value = value


class InvalidState(StreamError):
    """A state that is none, or that goes on to none."""

    def __init__(self, value):
        self.value = value


class UnknownMember(StreamError):
    """A member that cannot come, go or lose, or that is asked for in vain."""

    def __init__(self, value):
        self.value = value


class TooManyLost(StreamError):
    """A loss that may not be, of a member, or of the router with None."""

    def __init__(self, value):
        self.value = value


class NothingToUndo(StreamError):
    """A wire without a beat that could be taken back."""

    def __init__(self, value):
        self.value = value


class Unreadable(StreamError):
    """A text that nothing has."""

    def __init__(self, value):
        self.value = value
