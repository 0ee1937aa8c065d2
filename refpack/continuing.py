"""Reduced costs: what pairs leave of the costs, and pairs that are continued from there."""

from refpack.duals import dual_of, excesses_of, load_of
from refpack.least import cost_place, options_of


def _reduced_row(row, pairs, column, references, excess):
    """The costs of a column with these references, less the loads and plus the excess."""
    found = list(row)
    for reference in references:
        place = cost_place(column, reference)
        found[place] = row[place] - load_of(pairs, column, reference) + excess
    return tuple(found)


def reduced_costs(costs, pairs, *, fixed=()):
    """The costs less the loads plus the excesses; elements for which there is no arc stay."""
    options = options_of(len(costs), fixed)
    excesses = excesses_of(costs, pairs, fixed)
    rows = []
    for column, row in enumerate(costs):
        rows.append(_reduced_row(row, pairs, column, options[column], excesses[column]))
    return tuple(rows)


def continued(costs, pairs, *, fixed=()):
    """The pairs, and behind them the certificate of the reduced costs."""
    return (*pairs, *dual_of(reduced_costs(costs, pairs, fixed=fixed), fixed=fixed))
