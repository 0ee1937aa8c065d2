"""Conditions and queries made at random, and answered slowly, word by word, for comparison."""

import operator

COMPARISONS = {"=": operator.eq, "!=": operator.ne, "<": operator.lt, "<=": operator.le, ">": operator.gt,
               ">=": operator.ge}


def column_of(table, name):
    return next(column for column in table if column[0] == name)


def cell_in(column, row):
    _, labels, values = column
    return values[row] if labels is None else labels[values[row]]


def slow_holds(table, condition, row):
    """Whether the row satisfies the condition."""
    if condition[0] == "is":
        _, name, comparison, cell = condition
        _, labels, values = column_of(table, name)
        return COMPARISONS[comparison](values[row], cell if labels is None else labels.index(cell))
    if condition[0] == "not":
        return not slow_holds(table, condition[1], row)
    satisfied = sum(slow_holds(table, inner, row) for inner in condition[1])
    return satisfied == len(condition[1]) if condition[0] == "and" else satisfied > 0


def slow_aggregate(table, aggregate, rows):
    if aggregate[0] == "count":
        return sum(1 for _ in rows)
    column = column_of(table, aggregate[1])
    ordered = sorted(rows, key=lambda row: column[2][row])
    if aggregate[0] == "sum":
        return sum(column[2][row] for row in rows)
    if aggregate[0] == "distinct":
        return len({cell_in(column, row) for row in rows})
    if not ordered:
        return None
    return cell_in(column, ordered[0 if aggregate[0] == "min" else -1])


def slow_answer(table, query):
    where, group_by, select = query
    rows = [row for row in range(len(table[0][2])) if where is None or slow_holds(table, where, row)]
    if group_by is None:
        groups = [(None, rows)]
    else:
        column = column_of(table, group_by)
        values = sorted({column[2][row] for row in rows})
        groups = [(value if column[1] is None else column[1][value],
                   [row for row in rows if column[2][row] == value]) for value in values]
    return tuple((key, tuple(slow_aggregate(table, aggregate, some) for aggregate in select)) for key, some in groups)


def names_in(condition):
    """The names of the columns of a condition, from left to right."""
    if condition is None:
        return []
    if condition[0] == "is":
        return [condition[1]]
    inner = (condition[1],) if condition[0] == "not" else condition[1]
    return [name for part in inner for name in names_in(part)]


def slow_columns(table, query):
    where, group_by, select = query
    names = [*names_in(where), group_by, *(aggregate[1] for aggregate in select if len(aggregate) > 1)]
    return tuple(column[0] for column in table if column[0] in names)


def random_cell(source, column):
    """A cell of the column that occurs in it, or one near those."""
    _, labels, values = column
    if labels is not None:
        return source.choice(labels)
    near = source.choice(values or (0, 7)) + source.choice((-1, 0, 0, 1))
    return max(-1000000000, min(1000000000, near))


def random_condition(source, table, deep=6):
    """A condition that is at most so deep."""
    word = source.choice(("is", "is", "not", "and", "or")) if deep > 1 else "is"
    if word == "is":
        column = source.choice(table)
        return word, column[0], source.choice(tuple(COMPARISONS)), random_cell(source, column)
    if word == "not":
        return word, random_condition(source, table, deep - 1)
    return word, tuple(random_condition(source, table, deep - 1) for _ in range(source.choice((0, 1, 2, 2))))


def random_query(source, table):
    where = random_condition(source, table, source.randint(1, 4)) if source.random() < 0.7 else None
    group_by = source.choice(table)[0] if source.random() < 0.5 else None
    select = []
    for _ in range(source.randint(1, 6)):
        name, labels, _ = source.choice(table)
        word = source.choice(("count", "sum", "min", "max", "distinct"))
        if word == "count" or (word == "sum" and labels is not None):
            select.append(("count",))
        else:
            select.append((word, name))
    return where, group_by, tuple(select)
