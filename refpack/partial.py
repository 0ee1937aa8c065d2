"""Files that are read in part: a column, or what a query needs, whatever the other columns are."""

from refpack.parsing import parsed
from refpack.queries import answer, query_columns
from refpack.reading import values_reached
from refpack.tables import place_of, places_of


def _table_with(contents, values):
    """The table with these values of some columns, by their indices, and with 0 in all rows of the others."""
    rows, parts = contents
    zeros = (0,) * rows
    return tuple([(name, labels, values.get(place, zeros)) for place, (name, labels, _, _) in enumerate(parts)])


def column_in(numbers, name):
    """The values of a column of a file."""
    contents = parsed(numbers)
    place = place_of(_table_with(contents, {}), name)
    return values_reached(contents[1], (place,))[place]


def answer_in(numbers, query):
    """The answer to a query for the table of a file."""
    contents = parsed(numbers)
    # A query is checked by the heads alone, so the values may be missing here.
    unread = _table_with(contents, {})
    places = places_of(unread, query_columns(unread, query))
    return answer(_table_with(contents, values_reached(contents[1], places)), query)
