"""Queries: rows that are selected, grouped and summed up."""

from refpack.conditions import check_condition, comparisons_in, selected_rows
from refpack.errors import HasLabels
from refpack.tables import cell_of, place_of


def _check_aggregate(table, aggregate):
    """None for an aggregate that can be computed."""
    if aggregate[0] == "count":
        return
    word, name = aggregate
    _, labels, _ = table[place_of(table, name)]
    if word == "sum" and labels is not None:
        raise HasLabels(name)


def check_query(table, query):
    """None for a query that can be answered."""
    where, group_by, select = query
    if where is not None:
        check_condition(table, where)
    if group_by is not None:
        place_of(table, group_by)
    for aggregate in select:
        _check_aggregate(table, aggregate)


def aggregate_of(table, aggregate, rows):
    """The value of the aggregate for the rows."""
    _check_aggregate(table, aggregate)
    if aggregate[0] == "count":
        return len(rows)
    word, name = aggregate
    column = table[place_of(table, name)]
    values = [column[2][row] for row in rows]
    if word == "sum":
        return sum(values)
    if word == "distinct":
        return len(set(values))
    if not values:
        return None
    return cell_of(column, min(values) if word == "min" else max(values))


def _groups_of(table, group_by, rows):
    """The pairs of a key and the rows of its group."""
    if group_by is None:
        return [(None, rows)]
    column = table[place_of(table, group_by)]
    found = {}
    for row in rows:
        found.setdefault(column[2][row], []).append(row)
    return [(cell_of(column, value), tuple(found[value])) for value in sorted(found)]


def _names_in(query):
    """The names of the columns that the query asks for; a name may occur several times."""
    where, group_by, select = query
    names = [] if where is None else [name for _, name, _, _ in comparisons_in(where)]
    if group_by is not None:
        names.append(group_by)
    names.extend([aggregate[1] for aggregate in select if aggregate[0] != "count"])
    return names


def query_columns(table, query):
    """The names of the columns of the query, in the order of the table."""
    check_query(table, query)
    names = _names_in(query)
    return tuple([column[0] for column in table if column[0] in names])


def answer(table, query):
    """The answer to the query: a key and the values of the aggregates for each group."""
    check_query(table, query)
    where, group_by, select = query
    found = []
    for key, rows in _groups_of(table, group_by, selected_rows(table, where)):
        found.append((key, tuple([aggregate_of(table, aggregate, rows) for aggregate in select])))
    return tuple(found)
