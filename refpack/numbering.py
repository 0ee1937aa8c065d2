"""The least plans of a table by their numbers, without listing those before them."""

from refpack.least import each_least
from refpack.packing import is_least_plan
from refpack.plans import choice_of, named_recipe, recipe_key
from refpack.pricing import costs_of
from refpack.recipes import best_recipes


def _tied_recipes(table, column):
    """The tied recipes of the column with each other column as the reference, and without one: a dict."""
    values = table[column][2]
    found = {None: best_recipes(values, None)}
    for place, other in enumerate(table):
        if place != column:
            found[place] = best_recipes(values, other[2])
    return found


def _all_tied_recipes(table):
    return [_tied_recipes(table, column) for column in range(len(table))]


def _least_choices(table):
    costs = costs_of(table)
    return list(each_least(costs))


def _plans_from(tied, choice, first):
    """The number of least plans with the choice, where the recipes of the columns before the first are given."""
    many = 1
    for column in range(first, len(choice)):
        many = many * len(tied[column][choice[column]])
    return many


def _counted_recipes(tied, choices, column):
    """The recipes that the column has in least plans with these choices, in order, by indices of references.

    Each one has beside it how many of these plans have it, where the recipes of the columns before are given.
    """
    counts = {}
    for choice in choices:
        reference = choice[column]
        counts[reference] = counts.get(reference, 0) + _plans_from(tied, choice, column + 1)
    found = []
    for reference, many in counts.items():
        for kind, width in tied[column][reference]:
            found.append(((kind, reference, width), many))
    return sorted(found, key=lambda counted: recipe_key(counted[0]))


def _with_reference(choices, column, reference):
    return [choice for choice in choices if choice[column] == reference]


def count_least_plans(table):
    """The number of all least plans."""
    tied = _all_tied_recipes(table)
    return sum([_plans_from(tied, choice, 0) for choice in _least_choices(table)])


def _recipe_at(counted, number):
    """The recipe that the plan with this number has, and the number among the plans with the recipe."""
    for recipe, many in counted:
        if number < many:
            return recipe, number
        number = number - many
    return None, number


def least_plan_at(table, number):
    """The least plan with this number, None if no least plan has it."""
    tied = _all_tied_recipes(table)
    choices = _least_choices(table)
    plan = []
    for column in range(len(table)):
        recipe, number = _recipe_at(_counted_recipes(tied, choices, column), number)
        if recipe is None:
            return None
        choices = _with_reference(choices, column, recipe[1])
        plan.append(named_recipe(table, recipe))
    return tuple(plan)


def _plans_before(counted, recipe):
    """How many of the plans have an earlier recipe."""
    return sum([many for other, many in counted if recipe_key(other) < recipe_key(recipe)])


def least_plan_number(table, plan):
    """The number of the plan among all least plans, None if it is not one of them."""
    if not is_least_plan(table, plan):
        return None
    tied = _all_tied_recipes(table)
    choices = _least_choices(table)
    number = 0
    for column, reference in enumerate(choice_of(table, plan)):
        kind, _, width = plan[column]
        number = number + _plans_before(_counted_recipes(tied, choices, column), (kind, reference, width))
        choices = _with_reference(choices, column, reference)
    return number
