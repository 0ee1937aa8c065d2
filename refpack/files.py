"""Opened files: their columns, rows and answers, and counters of the sections that were needed."""

from refpack.plans import needed_columns, sizes_with
from refpack.queries import answer, query_columns
from refpack.reading import read_with_sections
from refpack.tables import place_of, places_of, rows_of


class File:
    """A file that has been read, with a counter for each column."""

    def __init__(self, numbers):
        table, plan, sections = read_with_sections(numbers)
        self._table = table
        self._plan = plan
        self._sizes = sizes_with(plan, sections)
        self._rows = rows_of(table)
        self._counters = [0] * len(table)

    def _needed_places(self, names):
        """The indices of the columns whose sections are needed for the columns with these names."""
        return places_of(self._table, needed_columns(self._table, self._plan, names))

    def _count(self, places):
        """Adds 1 to the counters of the columns at these indices."""
        for place in places:
            self._counters[place] += 1

    def column(self, name):
        """The values of a column."""
        values = self._table[place_of(self._table, name)][2]
        self._count(self._needed_places((name,)))
        return values

    def query(self, query):
        """The answer to a query."""
        found = answer(self._table, query)
        self._count(self._needed_places(query_columns(self._table, query)))
        return found

    def needs(self, query):
        """The names of the columns whose sections the query needs, and the sum of the sizes of these sections."""
        places = self._needed_places(query_columns(self._table, query))
        names = tuple([self._table[place][0] for place in places])
        return names, sum([self._sizes[place] for place in places])

    def exchange(self, name, number):
        """Sets the counter of a column; the one that it had before."""
        place = place_of(self._table, name)
        before = self._counters[place]
        self._counters[place] = number
        return before

    def walk(self):
        """The rows, one by one; the first step adds 1 to all counters."""
        self._count(tuple(range(len(self._table))))
        for row in self._rows:
            yield row

    @property
    def table(self):
        """The table."""
        return self._table

    @property
    def plan(self):
        """The plan."""
        return self._plan

    @property
    def counters(self):
        """The counters of all columns."""
        return tuple(self._counters)

    def __len__(self):
        return len(self._rows)

    def __iter__(self):
        return iter(self._rows)
