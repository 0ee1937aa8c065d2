"""Stores: tables that change, with a plan, a certificate and a history."""

from refpack.certificates import account_with, certify, lower_bound
from refpack.changes import changed
from refpack.errors import NothingToUndo
from refpack.packing import first_least_plan
from refpack.plans import file_size, plan_sizes
from refpack.reading import read_file
from refpack.tables import rows_of
from refpack.writing import encode


def _packed(table):
    """The table with the first least plan and its certificate."""
    return table, first_least_plan(table), certify(table)


def _slack_of(state):
    """By how much the size of the file exceeds the bound."""
    table, plan, certificate = state
    return file_size(table, plan) - lower_bound(table, certificate)


class Store:
    """A table that changes, a plan, a certificate, and the history of earlier ones."""

    def __init__(self, table, *, limit=None, keep=30):
        self._limit = limit
        self._keep = keep
        self._history = []
        self._put(_packed(table))

    @classmethod
    def opened(cls, numbers, *, limit=None, keep=30):
        """The store that is made from a file."""
        table, plan = read_file(numbers)
        store = cls(table, limit=limit, keep=keep)
        store._put(store._kept_within((table, plan, certify(table))))
        return store

    def _put(self, state):
        self._state = state
        self._rows = rows_of(state[0])

    def _kept_within(self, state):
        """The state, or the repacked one if its slack is greater than the limit."""
        if self._limit is not None and _slack_of(state) > self._limit:
            return _packed(state[0])
        return state

    def _step(self, state):
        """Makes the state the current one, and keeps the one before it in the history."""
        self._history.append(self._state)
        if len(self._history) > self._keep:
            del self._history[0]
        self._put(state)

    def _state_after(self, changes):
        """The state that applying the changes leads to."""
        table, plan, certificate = self._state
        return self._kept_within((changed(table, changes), plan, certificate))

    def apply(self, changes):
        """Applies the changes; the slack afterwards."""
        self._step(self._state_after(changes))
        return self.slack

    def tried(self, changes):
        """The slack that applying the changes would return."""
        return _slack_of(self._state_after(changes))

    def set_cell(self, row, column, cell):
        """Applies one change of a cell."""
        return self.apply((("set", row, column, cell),))

    def append_row(self, cells):
        """Applies one change that adds a row behind all others."""
        return self.apply((("append", cells),))

    def insert_row(self, row, cells):
        """Applies one change that adds a row at an index."""
        return self.apply((("insert", row, cells),))

    def remove_row(self, row):
        """Applies one change that removes a row."""
        return self.apply((("remove", row),))

    def repack(self):
        """Makes the file the smallest one; by how many bytes it has become smaller."""
        size = file_size(self.table, self.plan)
        self._step(_packed(self.table))
        return size - file_size(self.table, self.plan)

    def renew(self):
        """Makes the certificate the one of the table; the slack afterwards."""
        self._step((self.table, self.plan, certify(self.table)))
        return self.slack

    def undo(self):
        """Makes the latest entry of the history the current state; the number of entries that are left."""
        if not self._history:
            raise NothingToUndo("the history is empty")
        self._put(self._history.pop())
        return len(self._history)

    @property
    def table(self):
        """The table."""
        return self._state[0]

    @property
    def plan(self):
        """The plan."""
        return self._state[1]

    @property
    def certificate(self):
        """The certificate."""
        return self._state[2]

    @property
    def slack(self):
        """The size of the file less the bound of the certificate."""
        return _slack_of(self._state)

    @property
    def file(self):
        """The file of the plan for the table."""
        return encode(self.table, self.plan)

    @property
    def account(self):
        """Where the size of the file exceeds the bound of the certificate."""
        return account_with(self.table, self.plan, plan_sizes(self.table, self.plan), self.certificate)

    def __len__(self):
        return len(self._history)

    def __iter__(self):
        return iter(self._rows)
