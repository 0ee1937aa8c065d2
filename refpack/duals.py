"""Certificates of costs: pairs of a set of columns and an amount, which prove a bound for the total cost."""

from refpack.components import entering_cost, lowered, source_components
from refpack.least import arc_cost, options_of


def dual_of(costs, *, fixed=()):
    """The certificate of the costs; the sum of its amounts is the least total."""
    pairs = []
    components = source_components(costs, fixed=fixed)
    while components:
        members = components[0]
        amount = entering_cost(costs, members, fixed=fixed)
        pairs.append((members, amount))
        costs = lowered(costs, members, amount, fixed=fixed)
        components = source_components(costs, fixed=fixed)
    return tuple(pairs)


def load_of(pairs, column, reference):
    """The load of the column with this reference, or without one."""
    return sum([amount for members, amount in pairs if column in members and reference not in members])


def _excess_with(costs, pairs, column, references):
    """The excess of the column, which can have these references."""
    found = [0]
    for reference in references:
        found.append(load_of(pairs, column, reference) - arc_cost(costs, column, reference))
    return max(found)


def excesses_of(costs, pairs, fixed):
    """The excesses of all columns."""
    options = options_of(len(costs), fixed)
    return tuple([_excess_with(costs, pairs, column, options[column]) for column in range(len(costs))])


def excess_of(costs, pairs, column, *, fixed=()):
    """The greatest amount by which a load of the column exceeds its cost."""
    return excesses_of(costs, pairs, fixed)[column]


def dual_bound(costs, pairs, *, fixed=()):
    """The bound of the pairs: no choice that counts and is not circular has a lesser total cost."""
    amounts = [amount for _, amount in pairs]
    return max(0, sum(amounts) - sum(excesses_of(costs, pairs, fixed)))
