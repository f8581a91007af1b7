"""The errors of the program."""


class OverError(ValueError):
    """What the errors about wrong forms derive from."""


class InvalidGroup(OverError):
    """What was passed is no group, or no part of one."""


class InvalidFloor(OverError):
    """What was passed is no floor."""


class InvalidRow(OverError):
    """What was passed is no row, or no value of a floor."""


class InvalidTest(OverError):
    """What was passed is no test."""


class InvalidTable(OverError):
    """What was passed is no table."""


class InvalidMap(OverError):
    """What was passed is no map."""


class InvalidName(OverError):
    """What was passed is no name."""


class InvalidOperation(OverError):
    """What was passed does not go together, or does not fit the call."""


class ParseError(OverError):
    """A text is wrong at a spot."""

    def __init__(self, spot):
        self.spot = spot


class InvalidNumber(IndexError):
    """What was given is not a number as it is asked for."""

    def __init__(self, given):
        self.given = given


class UnknownName(KeyError):
    """The name that was asked for is not there."""

    def __init__(self, asked):
        self.asked = asked


class NothingToUndo(LookupError):
    """There is nothing that could be undone."""

    def __init__(self, wanted):
        self.wanted = wanted


class TooMany(OverflowError):
    """What is asked for goes beyond a limit."""

    def __init__(self, limit):
        self.limit = limit


class Refused(ArithmeticError):
    """What is asked for cannot be, for a reason."""

    def __init__(self, reason):
        self.reason = reason
