"""The errors of the package: each kind of failure has a class of its own."""


class ToldError(ValueError):
    """What all errors of the package are."""


class ParseError(ToldError):
    """A text is not that of a schema, a book or a condition."""

    def __init__(self, line):
        super().__init__(f"no such text: line {line}")
        self.line = line


class DuplicateName(ToldError):
    """A name is already in use."""


class InvalidBook(ToldError):
    """An object is no book of the schema."""


class InvalidCondition(ToldError):
    """An object is no condition of the table."""


class InvalidKept(ToldError):
    """An object is no list of different flag places."""


class InvalidKind(ToldError):
    """An object is no row kind that is asked for."""


class InvalidLacking(ToldError):
    """An object is no lacking flags of the schema."""


class InvalidLine(ToldError):
    """An object is no line of the shell."""


class InvalidMeeting(ToldError):
    """An object is no meeting."""


class InvalidName(ToldError):
    """An object is no name."""


class InvalidNumber(ToldError):
    """An object is no number that is asked for."""


class InvalidPair(ToldError):
    """An object is no pair of row kinds."""


class InvalidRows(ToldError):
    """An object is no rows of the schema."""


class InvalidSchema(ToldError):
    """A schema cannot be made from an object."""


class NotTold(ToldError):
    """A lacking flag is not told in all data."""


class NothingToUndo(ToldError):
    """No call can be taken back."""


class UnknownColumn(ToldError):
    """A table has no such column."""


class UnknownFlag(ToldError):
    """A table has no such flag."""


class UnknownRow(ToldError):
    """A table has no row with this index."""


class UnknownStore(ToldError):
    """No store has this name."""


class UnknownTable(ToldError):
    """A schema has no such table."""
