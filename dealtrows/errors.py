"""The errors of the package."""


class DealError(ValueError):
    """The base of the errors that have no counterpart in Python."""


class InvalidSchema(DealError):
    """A value is no schema."""


class InvalidDatabase(DealError):
    """A value is no database that fits."""


class InvalidClause(DealError):
    """A value is no clause."""


class InvalidQuery(DealError):
    """A value is no query that fits."""


class InvalidRule(DealError):
    """A value is no rule that fits."""


class InvalidPlacement(DealError):
    """A value is no placement that fits."""


class InvalidCase(DealError):
    """A value is no case that fits."""


class InvalidRow(DealError):
    """A value is no row, or are no rows, that fit."""


class InvalidAnswer(DealError):
    """A value is no answer, or no part of one."""


class InvalidOperation(DealError):
    """Something cannot be done with these values."""


class ParseError(DealError):
    """A line of a text cannot be read."""

    def __init__(self, line):
        self.line = line


class BrokenConstraint(DealError):
    """Rows break a key or a reference."""

    def __init__(self, constraint):
        self.constraint = constraint


class Rejected(DealError):
    """Something is refused for a reason."""

    def __init__(self, reason):
        self.reason = reason


class UnknownName(KeyError):
    """A value names nothing."""

    def __init__(self, name):
        self.name = name


class MissingRow(LookupError):
    """A row is not there."""

    def __init__(self, row):
        self.row = row


class NothingToUndo(IndexError):
    """There are not so many changes."""

    def __init__(self, many):
        self.many = many


class TooMany(OverflowError):
    """There are more than a limit allows."""

    def __init__(self, limit):
        self.limit = limit


class InvalidNumber(RuntimeError):
    """A value is no number that fits."""

    def __init__(self, value):
        self.value = value


class NoNodes(ZeroDivisionError):
    """There would be no node."""

    def __init__(self, value):
        self.value = value
