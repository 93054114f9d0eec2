"""The errors that the package raises."""


class NoName(LookupError):
    """There is no state of this NAME."""

    def __init__(self, name):
        self.name = name


class NoNumber(LookupError):
    """There is nothing with this number."""

    def __init__(self, number):
        self.number = number


class NothingDone(LookupError):
    """There is no deed to take back."""


class NoReader(ValueError):
    """There is no READER of the kind asked for."""


class Twice(ValueError):
    """There is a state of this NAME already."""

    def __init__(self, name):
        self.name = name


class NotJoined(ValueError):
    """There is no move of these two states."""

    def __init__(self, one, other):
        self.one = one
        self.other = other


class BadText(ValueError):
    """The text is not one of the kind asked for."""


class BadLine(ValueError):
    """The line with this number is not one of the kind asked for."""

    def __init__(self, number):
        self.number = number
