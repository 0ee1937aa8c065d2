"""Plans: one recipe for each column of a table."""

from refpack.errors import CircularReferences
from refpack.references import chained_columns, circle_of, reference_key
from refpack.sections import KINDS, section_of, section_size
from refpack.tables import header_size, name_at, place_of, places_of


def choice_of(table, plan):
    """The choice of the plan."""
    choice = tuple([None if recipe[1] is None else place_of(table, recipe[1]) for recipe in plan])
    if circle_of(choice) is not None:
        raise CircularReferences("the plan is circular")
    return choice


def check_plan(table, plan):
    """None for a plan that can be used."""
    choice_of(table, plan)


def plan_sections(table, plan):
    """The sections of the plan."""
    sections = []
    for (_, _, values), (kind, _, width), place in zip(table, plan, choice_of(table, plan)):
        reference = None if place is None else table[place][2]
        sections.append(section_of(kind, width, values, reference))
    return tuple(sections)


def sizes_with(plan, sections):
    """The sizes of sections that have the widths of the plan."""
    return tuple([section_size(recipe[2], section) for recipe, section in zip(plan, sections)])


def plan_sizes(table, plan):
    """The sizes of the sections of the plan."""
    return sizes_with(plan, plan_sections(table, plan))


def file_size(table, plan):
    """The size of the file of the plan."""
    return header_size(table) + sum(plan_sizes(table, plan))


def recipe_key(recipe):
    """A tuple that is compared as recipes for a column are; the reference of the recipe is an index or None."""
    kind, place, width = recipe
    return KINDS.index(kind), reference_key(place), width


def named_recipe(table, recipe):
    """The recipe with the name of the reference in the place of its index."""
    kind, place, width = recipe
    return kind, name_at(table, place), width


def _sort_keys(table, plan):
    """The tuples that are compared as the recipes of the plan are."""
    return [recipe_key((kind, place, width)) for (kind, _, width), place in zip(plan, choice_of(table, plan))]


def plan_order(table, first, second):
    """-1 if the first plan comes before the second one, 1 if it comes after it, 0 if they are equal."""
    first_keys = _sort_keys(table, first)
    second_keys = _sort_keys(table, second)
    if first_keys == second_keys:
        return 0
    return -1 if first_keys < second_keys else 1


def needed_columns(table, plan, names):
    """The names of the columns whose sections are needed, in the order of the table."""
    choice = choice_of(table, plan)
    places = places_of(table, names)
    return tuple([table[place][0] for place in chained_columns(choice, places)])
