"""Changes of tables, what leads back, what leads from one table to another, and how far sizes can move."""

from refpack.errors import NoRow, TooManyRows
from refpack.tables import MOST_ROWS, cell_of, place_of, row_count, rows_of, value_of


def _check_row(row, many):
    """The row is one of so many."""
    if not 0 <= row < many:
        raise NoRow(row)


def _with_cell(table, row, name, cell):
    """The table with another cell."""
    _check_row(row, row_count(table))
    place = place_of(table, name)
    head_name, labels, values = table[place]
    value = value_of(table[place], cell)
    column = (head_name, labels, (*values[:row], value, *values[row + 1:]))
    return (*table[:place], column, *table[place + 1:])


def _with_row(table, row, cells):
    """The table with a new row before the one with this index, or behind all others."""
    if row_count(table) >= MOST_ROWS:
        raise TooManyRows("the table cannot have one more row")
    columns = []
    for column, cell in zip(table, cells):
        name, labels, values = column
        columns.append((name, labels, (*values[:row], value_of(column, cell), *values[row:])))
    return tuple(columns)


def _without_row(table, row):
    """The table without a row."""
    _check_row(row, row_count(table))
    return tuple([(name, labels, (*values[:row], *values[row + 1:])) for name, labels, values in table])


def _after(table, change):
    """The table behind one change."""
    word = change[0]
    if word == "set":
        _, row, name, cell = change
        return _with_cell(table, row, name, cell)
    if word == "append":
        return _with_row(table, row_count(table), change[1])
    row = change[1]
    if word == "remove":
        return _without_row(table, row)
    _check_row(row, row_count(table) + 1)
    return _with_row(table, row, change[2])


def changed(table, changes):
    """The table behind the changes."""
    for change in changes:
        table = _after(table, change)
    return table


def _opposite(table, change):
    """The change that leads back from behind a change, which can be made, to the table before it."""
    word = change[0]
    if word == "set":
        _, row, name, _ = change
        column = table[place_of(table, name)]
        return "set", row, name, cell_of(column, column[2][row])
    if word == "append":
        return "remove", row_count(table)
    row = change[1]
    return ("insert", row, rows_of(table)[row]) if word == "remove" else ("remove", row)


def inverse(table, changes):
    """The changes that lead from the table behind these back to the table before them."""
    found = []
    for change in changes:
        following = _after(table, change)
        found.append(_opposite(table, change))
        table = following
    return tuple(reversed(found))


def _cell_changes(first, row, before, after):
    """A set for each cell of the row that is different; the first table has the names."""
    found = []
    for column, old, new in zip(first, before, after):
        if old != new:
            found.append(("set", row, column[0], new))
    return found


def difference(first, second):
    """The changes that lead from the first table to the second one, which has the same heads."""
    old_rows = rows_of(first)
    new_rows = rows_of(second)
    found = []
    for row, (before, after) in enumerate(zip(old_rows, new_rows)):
        found.extend(_cell_changes(first, row, before, after))
    found.extend([("append", cells) for cells in new_rows[len(old_rows):]])
    found.extend([("remove", row) for row in reversed(range(len(new_rows), len(old_rows)))])
    return tuple(found)


def limits_of(word, columns):
    """How far a change can make sizes and bounds fall and rise, in a table with so many columns."""
    if word == "set":
        return 6 * columns + 6, 6 * columns + 6
    if word == "append":
        return 0, 10 * columns
    if word == "insert":
        return 6 * columns, 16 * columns
    return 16 * columns, 6 * columns
