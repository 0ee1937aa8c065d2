"""All errors of the program."""


def _fault_text(row):
    return "wrong number of entries" if row is None else f"row {row} has no permitted value"


class PackError(ValueError):
    """The base class of all errors."""


class UnknownColumn(PackError):
    """A name that no column of the table has."""

    def __init__(self, name):
        PackError.__init__(self, f"no column is called {name}")
        self.name = name


class CircularReferences(PackError):
    """References that lead from a column back to it."""


class BadSection(PackError):
    """A section that does not give each row a permitted value."""

    def __init__(self, row):
        PackError.__init__(self, _fault_text(row))
        self.row = row


class WrongCell(PackError):
    """An integer or a string that is no cell of a column."""

    def __init__(self, column):
        PackError.__init__(self, f"not a cell of the column {column}")
        self.column = column


class HasLabels(PackError):
    """A sum of a column with labels."""

    def __init__(self, column):
        PackError.__init__(self, f"the column {column} has labels")
        self.column = column


class BadFile(PackError):
    """Integers that cannot be parsed as a file."""

    def __init__(self, place, reason):
        PackError.__init__(self, f"wrong at {place}: {reason}")
        self.place = place
        self.reason = reason


class BadValues(PackError):
    """A file with a section that does not give each row a permitted value."""

    def __init__(self, column, row):
        PackError.__init__(self, f"column {column}: {_fault_text(row)}")
        self.column = column
        self.row = row


class NoRow(PackError):
    """An index that no row of the table has."""

    def __init__(self, row):
        PackError.__init__(self, f"there is no row {row}")
        self.row = row


class TooManyRows(PackError):
    """A table that cannot have one more row."""


class NothingToUndo(PackError):
    """A store whose history is empty."""
