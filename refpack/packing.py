"""The smallest files of a table, and their plans."""

from refpack.least import cheapest_branches, least_total, options_of
from refpack.plans import file_size, named_recipe, recipe_key
from refpack.pricing import costs_of, recipe_for
from refpack.tables import header_size, place_of
from refpack.writing import encode


def fixed_places(table, fixed):
    """References that are fixed by names, by indices."""
    places = []
    for name, reference in fixed:
        column = place_of(table, name)
        places.append((column, None if reference is None else place_of(table, reference)))
    return tuple(places)


def least_size(table, *, fixed=()):
    """The size of the smallest files of the table."""
    places = fixed_places(table, fixed)
    return header_size(table) + least_total(costs_of(table), fixed=places)


def _first_recipe(table, column, references):
    """The first recipe of the column with one of the references; its reference is an index or None."""
    found = []
    for reference in references:
        # Of all tied recipes with this reference the best one is the first.
        kind, width, _ = recipe_for(table, column, reference)
        found.append((kind, reference, width))
    return min(found, key=recipe_key)


def first_plan_within(table, costs, families):
    """The first plan with the smallest file of those whose choices one of the families of options allows."""
    plan = []
    for column in range(len(table)):
        branches = cheapest_branches(costs, families, column)
        recipe = _first_recipe(table, column, list(branches))
        families = branches[recipe[1]]
        plan.append(named_recipe(table, recipe))
    return tuple(plan)


def first_least_plan(table, *, fixed=()):
    """The first least plan."""
    options = options_of(len(table), fixed_places(table, fixed))
    return first_plan_within(table, costs_of(table), [options])


def is_least_plan(table, plan):
    """Whether no file of the table is smaller than that of the plan."""
    return file_size(table, plan) == least_size(table)


def pack(table):
    """The file of the first least plan."""
    return encode(table, first_least_plan(table))
