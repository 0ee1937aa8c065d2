"""References between columns: circles, chains, ranks and the order of computing."""

from refpack.errors import CircularReferences


def reference_key(reference):
    """An integer that is compared as references are: None comes before all columns."""
    return -1 if reference is None else reference


def _path_from(choice, column):
    """The columns that are met by following references from the column, each one once."""
    path = []
    while column is not None and column not in path:
        path.append(column)
        column = choice[column]
    return tuple(path)


def circle_of(choice):
    """The circle of a circular choice, None if it is not circular."""
    for column in range(len(choice)):
        path = _path_from(choice, column)
        # A path that ends at another column of it only leads to a circle.
        if choice[path[-1]] == column:
            return path
    return None


def _has_end(choice, path):
    return choice[path[-1]] is None


def chain_of(choice, column):
    """The columns of the chain of the column."""
    path = _path_from(choice, column)
    if not _has_end(choice, path):
        raise CircularReferences("the chain does not end")
    return path


def chained_columns(choice, columns):
    """The columns of the chains of the columns, ascending."""
    chains = [chain_of(choice, column) for column in columns]
    return tuple(sorted(set([column for chain in chains for column in chain])))


def reached_columns(choice, columns):
    """The columns and all that are reached from them by following references, on circles too, ascending."""
    found = set()
    for column in columns:
        for other in _path_from(choice, column):
            found.add(other)
    return tuple(sorted(found))


def ranks_of(choice):
    """The rank of each column, None if its chain does not end."""
    paths = [_path_from(choice, column) for column in range(len(choice))]
    return tuple([len(path) - 1 if _has_end(choice, path) else None for path in paths])


def _next_computed(choice, order):
    """The first column that can be computed behind those of the order, or None."""
    for column, reference in enumerate(choice):
        if column not in order and (reference is None or reference in order):
            return column
    return None


def computing_order(choice):
    """The columns that can be computed, in the order in which they are computed."""
    order = []
    column = _next_computed(choice, order)
    while column is not None:
        order.append(column)
        column = _next_computed(choice, order)
    return tuple(order)


def entering_columns(choice, members):
    """The members whose reference is no member, ascending."""
    return tuple([column for column in sorted(members) if choice[column] not in members])
