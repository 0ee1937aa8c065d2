"""The smallest files of a table, and their plans."""

from refpack.least import least_total, least_with, options_of, with_options
from refpack.plans import file_size, recipe_key
from refpack.pricing import costs_of, recipe_for
from refpack.tables import header_size, place_of
from refpack.writing import encode


def fixed_places(table, fixed):
    """References that are fixed by names, by indices."""
    places = []
    for name, reference in fixed:
        column = place_of(table, name)
        places.append((column, None if reference is None else place_of(table, reference)))
    return tuple(places)


def least_size(table, *, fixed=()):
    """The size of the smallest files of the table."""
    places = fixed_places(table, fixed)
    return header_size(table) + least_total(costs_of(table), fixed=places)


def _first_recipe(table, costs, options, column):
    """The first recipe of the column with which a plan can still be least; its reference is an index or None."""
    least = least_with(costs, options)
    found = []
    for reference in options[column]:
        if least_with(costs, with_options(options, column, (reference,))) == least:
            # Of all tied recipes with this reference the best one is the first.
            kind, width, _ = recipe_for(table, column, reference)
            found.append((kind, reference, width))
    return min(found, key=recipe_key)


def first_least_plan(table, *, fixed=()):
    """The first least plan."""
    options = options_of(len(table), fixed_places(table, fixed))
    costs = costs_of(table)
    plan = []
    for column in range(len(table)):
        kind, reference, width = _first_recipe(table, costs, options, column)
        options = with_options(options, column, (reference,))
        plan.append((kind, None if reference is None else table[reference][0], width))
    return tuple(plan)


def is_least_plan(table, plan):
    """Whether no file of the table is smaller than that of the plan."""
    return file_size(table, plan) == least_size(table)


def pack(table):
    """The file of the first least plan."""
    return encode(table, first_least_plan(table))
