"""Certificates of costs: pairs of a set of columns and an amount, which prove a bound for the total cost."""

from refpack.components import entering_cost, lowered, source_components
from refpack.least import arc_cost, options_of


def dual_of(costs, *, fixed=()):
    """The certificate of the costs; the sum of its amounts is the least total."""
    pairs = []
    components = source_components(costs, fixed=fixed)
    while components:
        members = components[0]
        amount = entering_cost(costs, members, fixed=fixed)
        pairs.append((members, amount))
        costs = lowered(costs, members, amount, fixed=fixed)
        components = source_components(costs, fixed=fixed)
    return tuple(pairs)


def load_of(pairs, column, reference):
    """The load of the column with this reference, or without one."""
    return sum([amount for members, amount in pairs if column in members and reference not in members])


def excess_with(costs, pairs, options, column):
    """The excess of the column, which can have the references of its options."""
    overloads = [0]
    for reference in options[column]:
        overloads.append(load_of(pairs, column, reference) - arc_cost(costs, column, reference))
    return max(overloads)


def excess_of(costs, pairs, column, *, fixed=()):
    """The greatest amount by which a load of the column exceeds its cost."""
    return excess_with(costs, pairs, options_of(len(costs), fixed), column)


def dual_bound(costs, pairs, *, fixed=()):
    """The bound of the pairs: no choice that counts and is not circular has a lesser total cost."""
    options = options_of(len(costs), fixed)
    amounts = [amount for _, amount in pairs]
    excesses = [excess_with(costs, pairs, options, column) for column in range(len(costs))]
    return max(0, sum(amounts) - sum(excesses))
