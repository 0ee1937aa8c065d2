"""Gaps: where the total cost of a choice exceeds what pairs prove, and which choices pairs allow."""

from refpack.duals import excesses_of, load_of
from refpack.least import arc_cost
from refpack.references import circle_of, entering_columns


def gaps_with(spent, excesses, pairs, choice):
    """The gaps of a choice that is not circular, in which each column has cost what is spent on it."""
    column_gaps = []
    for column, reference in enumerate(choice):
        column_gaps.append(spent[column] - load_of(pairs, column, reference) + excesses[column])
    pair_gaps = [amount * (len(entering_columns(choice, members)) - 1) for members, amount in pairs]
    return tuple(column_gaps), tuple(pair_gaps)


def gaps_of(costs, pairs, choice, *, fixed=()):
    """The gaps of all columns and of all pairs, None if the choice does not count or is circular."""
    excesses = excesses_of(costs, pairs, fixed)
    if circle_of(choice) is not None or any([choice[column] != reference for column, reference in fixed]):
        return None
    spent = [arc_cost(costs, column, reference) for column, reference in enumerate(choice)]
    return gaps_with(spent, excesses, pairs, choice)


def allows(costs, pairs, choice, *, fixed=()):
    """Whether the choice counts, is not circular, and all its gaps are 0."""
    gaps = gaps_of(costs, pairs, choice, fixed=fixed)
    return gaps is not None and not any([*gaps[0], *gaps[1]])
