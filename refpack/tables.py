"""Tables: columns, cells and rows, and the flaws of what only looks like a table."""

from refpack.errors import UnknownColumn, WrongCell

MOST_COLUMNS = 6
MOST_ROWS = 24
MOST_NAME_CHARACTERS = 20
MOST_LABELS = 6
MOST_LABEL_CHARACTERS = 8
GREATEST_VALUE = 1000000000


def is_permitted(value, label_count):
    """Whether a column with so many labels, or without labels, can have the value."""
    if label_count is None:
        return -GREATEST_VALUE <= value <= GREATEST_VALUE
    return 0 <= value < label_count


def label_count_of(labels):
    """The number of labels, None without labels."""
    return None if labels is None else len(labels)


def _is_letter(character):
    return "A" <= character <= "Z" or "a" <= character <= "z"


def _is_name_character(character):
    return _is_letter(character) or "0" <= character <= "9" or character == "_"


def is_name(text):
    """Whether a column can have this name."""
    if not 1 <= len(text) <= MOST_NAME_CHARACTERS or not _is_letter(text[0]):
        return False
    return all([_is_name_character(character) for character in text])


def _column_flaw(column):
    """The reason why this is no column by itself, or None."""
    name, labels, values = column
    if not is_name(name):
        return "name"
    if labels is not None:
        if not 1 <= len(labels) <= MOST_LABELS:
            return "labels"
        if any([len(label) > MOST_LABEL_CHARACTERS for label in labels]):
            return "label"
        if len(set(labels)) < len(labels):
            return "duplicate label"
    if not all([is_permitted(value, label_count_of(labels)) for value in values]):
        return "value"
    return None


def _joint_flaw(table):
    """The flaw of columns that are in order by themselves, or None."""
    names = [name for name, _, _ in table]
    for place, name in enumerate(names):
        if name in names[:place]:
            return "duplicate name", place
    many = row_count(table)
    for place, (_, _, values) in enumerate(table):
        if len(values) != many:
            return "length", place
    return ("rows", None) if many > MOST_ROWS else None


def flaw_of(table):
    """The flaw of what looks like a table, a pair of a reason and an index, or None."""
    if not 1 <= len(table) <= MOST_COLUMNS:
        return "columns", None
    for place, column in enumerate(table):
        reason = _column_flaw(column)
        if reason is not None:
            return reason, place
    return _joint_flaw(table)


def row_count(table):
    """The number of rows."""
    return len(table[0][2])


def heads_of(table):
    """The heads of the columns."""
    return tuple([(name, labels) for name, labels, _ in table])


def place_of(table, name):
    """The index of the column with this name."""
    for place, column in enumerate(table):
        if column[0] == name:
            return place
    raise UnknownColumn(name)


def places_of(table, names):
    """The indices of the columns with these names."""
    return tuple([place_of(table, name) for name in names])


def name_at(table, place):
    """The name of the column at this index, None in the place of a reference that is None."""
    return None if place is None else table[place][0]


def cell_of(column, value):
    """The cell of a value of the column."""
    labels = column[1]
    return value if labels is None else labels[value]


def _value_under(head, cell):
    """The value whose cell this is in a column with this head."""
    name, labels = head
    if labels is None:
        if isinstance(cell, int) and is_permitted(cell, None):
            return cell
    elif cell in labels:
        return labels.index(cell)
    raise WrongCell(name)


def value_of(column, cell):
    """The value whose cell this is in the column."""
    return _value_under(column[:2], cell)


def rows_of(table):
    """The rows of the table, tuples of cells."""
    return tuple([tuple([cell_of(column, column[2][row]) for column in table]) for row in range(row_count(table))])


def table_of(heads, rows):
    """The table with these heads and rows."""
    found = [[_value_under(head, cell) for head, cell in zip(heads, row)] for row in rows]
    return tuple([(*head, tuple([values[place] for values in found])) for place, head in enumerate(heads)])


def header_size(table):
    """The number of bytes of the header of every file of the table."""
    size = 5
    for name, labels, _ in table:
        size += 2 + len(name)
        if labels is not None:
            size += sum([1 + len(label) for label in labels])
    return size
