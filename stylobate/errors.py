"""All errors of the program."""


class StylobateError(ValueError):
    """The base class of all errors."""


class InvalidName(StylobateError):
    """A name is too short or too long."""


class InvalidColumns(StylobateError):
    """The columns of a table are not as they must be."""


class InvalidSize(StylobateError):
    """A group size is out of its bounds."""


class InvalidOptions(StylobateError):
    """The options of a call are not as they must be."""


class NameTaken(StylobateError):
    """A new name is in use."""


class TooMany(StylobateError):
    """There are as many things of a kind as there may be."""


class UnknownTable(StylobateError):
    """There is no table with the name."""


class UnknownColumn(StylobateError):
    """There is no column with the name, or it is named twice."""


class UnknownGroup(StylobateError):
    """There is no group with the number."""


class UnknownAnswer(StylobateError):
    """There is no kept answer with the name."""


class UnknownName(StylobateError):
    """There is no named query and no function with the name."""


class TableFull(StylobateError):
    """A table would have too many rows."""


class TableInUse(StylobateError):
    """A kept answer uses the table."""


class InvalidEncoding(StylobateError):
    """A column cannot be encoded in the form."""


class InvalidFile(StylobateError):
    """Octets are not those of a table."""


class NoTransaction(StylobateError):
    """No transaction is open."""


class QueryError(StylobateError):
    """A text of the query language is refused."""

    def __init__(self, offset, reason):
        super().__init__(f"{reason} (at {offset})")
        self.offset = offset
        self.reason = reason


class InvalidText(StylobateError):
    """A text with separators is refused."""

    def __init__(self, offset, reason):
        super().__init__(f"{reason} (at {offset})")
        self.offset = offset
        self.reason = reason


class InvalidRow(StylobateError):
    """A row does not fit its table."""

    def __init__(self, place):
        super().__init__(f"the row {place} does not fit")
        self.place = place
