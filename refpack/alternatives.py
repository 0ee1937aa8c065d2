"""Alternatives: what each column costs with each reference, and what the whole file then needs."""

from refpack.least import least_total, options_of
from refpack.pricing import costs_of, recipe_for
from refpack.tables import header_size, name_at


def _alternative(table, costs, column, reference):
    """The best recipe of the column with the reference, its bytes, and the size of the smallest files with it."""
    kind, width, size = recipe_for(table, column, reference)
    total = header_size(table) + least_total(costs, fixed=((column, reference),))
    return name_at(table, reference), kind, width, size, total


def alternatives(table):
    """The alternatives of each column."""
    costs = costs_of(table)
    found = []
    for column, references in enumerate(options_of(len(table), ())):
        found.append(tuple([_alternative(table, costs, column, reference) for reference in references]))
    return tuple(found)
