"""Source components of columns along tight arcs, and arcs that enter a set of columns."""

from refpack.least import arc_cost, cost_place, options_of


def _tight_sources(costs, options, column):
    """The columns from which the column is reached along tight arcs, itself among them, ascending.

    None if it is reached from the start.
    """
    found = [column]
    looked_at = 0
    while looked_at < len(found):
        reached = found[looked_at]
        for reference in options[reached]:
            if arc_cost(costs, reached, reference) == 0:
                if reference is None:
                    return None
                if reference not in found:
                    found.append(reference)
        looked_at += 1
    return tuple(sorted(found))


def source_components(costs, *, fixed=()):
    """The source components, in the order of their first columns."""
    options = options_of(len(costs), fixed)
    sources = [_tight_sources(costs, options, column) for column in range(len(costs))]
    found = []
    for column, members in enumerate(sources):
        # Whatever reaches a column of a source component belongs to the component itself.
        if members is not None and members[0] == column and all([sources[other] == members for other in members]):
            found.append(members)
    return tuple(found)


def _enters(members, column, reference):
    """Whether the arc to the column, from a reference or from the start, enters the set."""
    return column in members and reference not in members


def entering_cost(costs, members, *, fixed=()):
    """The least remaining cost of the arcs that enter the set."""
    found = []
    for column, references in enumerate(options_of(len(costs), fixed)):
        for reference in references:
            if _enters(members, column, reference):
                found.append(arc_cost(costs, column, reference))
    return min(found)


def _lowered_row(row, column, references, members, amount):
    """The costs of a column after the amount has been subtracted for the arcs that enter the set."""
    found = list(row)
    for reference in references:
        if _enters(members, column, reference):
            place = cost_place(column, reference)
            found[place] = found[place] - amount
    return tuple(found)


def lowered(costs, members, amount, *, fixed=()):
    """The costs after the amount has been subtracted for all arcs that enter the set."""
    options = options_of(len(costs), fixed)
    rows = []
    for column, row in enumerate(costs):
        rows.append(_lowered_row(row, column, options[column], members, amount))
    return tuple(rows)
