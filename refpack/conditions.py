"""Conditions: which rows of a table satisfy them, and how they are written without "not"."""

from refpack.tables import place_of, row_count, value_of

OPPOSITES = {"=": "!=", "!=": "=", "<": ">=", ">=": "<", ">": "<=", "<=": ">", "and": "or", "or": "and"}


def _joined(condition):
    """The conditions of which a "not", an "and" or an "or" consists."""
    word, inner = condition
    return (inner,) if word == "not" else inner


def comparisons_in(condition):
    """All parts "is" that occur in the condition, from left to right."""
    if condition[0] == "is":
        return [condition]
    found = []
    for inner in _joined(condition):
        found.extend(comparisons_in(inner))
    return found


def check_condition(table, condition):
    """None for a condition with columns of the table and cells of these columns."""
    for _, name, _, cell in comparisons_in(condition):
        value_of(table[place_of(table, name)], cell)


def _compares(value, comparison, other):
    """Whether the value is so compared with the other one."""
    if comparison in ("=", "!="):
        return (value == other) == (comparison == "=")
    if comparison in ("<", ">="):
        return (value < other) == (comparison == "<")
    return (value > other) == (comparison == ">")


def _holds(table, condition, row):
    """Whether the row satisfies the condition, which has been checked."""
    word = condition[0]
    if word == "is":
        _, name, comparison, cell = condition
        column = table[place_of(table, name)]
        return _compares(column[2][row], comparison, value_of(column, cell))
    found = [_holds(table, inner, row) for inner in _joined(condition)]
    if word == "not":
        return not found[0]
    return all(found) if word == "and" else any(found)


def satisfies(table, condition, row):
    """Whether the row satisfies the condition."""
    check_condition(table, condition)
    return _holds(table, condition, row)


def selected_rows(table, where):
    """The rows that satisfy the condition, all rows without one."""
    rows = tuple(range(row_count(table)))
    if where is None:
        return rows
    check_condition(table, where)
    return tuple([row for row in rows if _holds(table, where, row)])


def _opposite_of(condition):
    """The opposite of the condition, without "not"."""
    word = condition[0]
    if word == "is":
        _, name, comparison, cell = condition
        return word, name, OPPOSITES[comparison], cell
    if word == "not":
        return without_not(condition[1])
    return OPPOSITES[word], tuple([_opposite_of(inner) for inner in condition[1]])


def without_not(condition):
    """The condition, but each "not" is replaced by the opposite of what it contains."""
    word = condition[0]
    if word == "is":
        return condition
    if word == "not":
        return _opposite_of(condition[1])
    return word, tuple([without_not(inner) for inner in condition[1]])
