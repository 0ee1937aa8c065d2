"""Needs: what is needed of the columns to know some of them, the least of it, and distances."""

from refpack.least import arc_cost, cheapest_branches, options_of, set_totals
from refpack.references import chained_columns, reference_key


def needed_members(choice, members):
    """The needed columns of the members, ascending."""
    return chained_columns(choice, members)


def need_of(costs, choice, members):
    """The sum of the costs of the needed columns of the members."""
    return sum([arc_cost(costs, column, choice[column]) for column in needed_members(choice, members)])


def _totals_around(totals, members):
    """The sets that contain the members, each one with its t, where it has one."""
    wanted = sum([1 << member for member in members])
    found = []
    for columns, total in enumerate(totals):
        if columns & wanted == wanted and total is not None:
            found.append((columns, total))
    return found


def _least_around(totals, members):
    """The least t of a set that contains the members."""
    return min([total for _, total in _totals_around(totals, members)])


def least_need(costs, members, *, fixed=()):
    """The least need of the members in all choices that count and are not circular."""
    return _least_around(set_totals(costs, options_of(len(costs), fixed)), members)


def _options_inside(options, columns):
    """The options, but no column of the set refers to one outside of it."""
    found = []
    for column, references in enumerate(options):
        inside = [other for other in references if other is None or (columns >> other) & 1]
        found.append(tuple(inside) if (columns >> column) & 1 else references)
    return tuple(found)


def serving_families(costs, members, fixed):
    """Families of options: the cheapest choices that they allow are the cheapest ones with the least need.

    There is one family for each set that contains the members and whose t is the least need. Its columns do not refer
    to others, so the cheapest choices spend just this t on them, whatever the other columns refer to.
    """
    options = options_of(len(costs), fixed)
    totals = set_totals(costs, options)
    least = _least_around(totals, members)
    return [_options_inside(options, columns) for columns, total in _totals_around(totals, members) if total == least]


def serving_choice(costs, members, *, fixed=()):
    """The first of the choices with the least need of the members that have the least total cost."""
    families = serving_families(costs, members, fixed)
    choice = []
    for column in range(len(costs)):
        branches = cheapest_branches(costs, families, column)
        reference = min(list(branches), key=reference_key)
        families = branches[reference]
        choice.append(reference)
    return tuple(choice)


def meeting(pairs, members):
    """The pairs one of whose members is among the members, in order."""
    return tuple([pair for pair in pairs if any([column in members for column in pair[0]])])


def distances_of(costs, *, fixed=()):
    """The distances of all columns."""
    totals = set_totals(costs, options_of(len(costs), fixed))
    return tuple([_least_around(totals, (column,)) for column in range(len(costs))])


def distance_pairs(costs, column, *, fixed=()):
    """The distance pairs of the column: they prove its distance."""
    distances = distances_of(costs, fixed=fixed)
    pairs = []
    before = 0
    for distance in sorted({other for other in distances if 0 < other <= distances[column]}):
        members = [other for other in range(len(costs)) if distances[other] >= distance]
        pairs.append((tuple(members), distance - before))
        before = distance
    return tuple(pairs)
