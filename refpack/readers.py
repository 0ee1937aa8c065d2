"""Readers: files that arrive in pieces."""

from refpack.parsing import arrived_sections
from refpack.reading import read_file


class Reader:
    """What has been fed of a file so far."""

    def __init__(self):
        self._numbers = ()

    def feed(self, numbers):
        """Adds a piece; the number of sections that have arrived so far."""
        longer = (*self._numbers, *numbers)
        many = arrived_sections(longer)
        self._numbers = longer
        return many

    def finish(self):
        """The table and the plan of the file that has been fed."""
        return read_file(self._numbers)

    def __len__(self):
        return len(self._numbers)
