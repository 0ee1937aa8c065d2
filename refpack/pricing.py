"""The costs of a table: the least sizes of its sections with each reference, and without one."""

from refpack.recipes import best_recipe


def recipe_for(table, column, reference):
    """The best recipe of the column at this index with the reference, or without one: kind, width and bytes."""
    values = None if reference is None else table[reference][2]
    return best_recipe(table[column][2], values)


def costs_of(table):
    """The costs of the table."""
    rows = []
    for column in range(len(table)):
        references = [None if place == column else place for place in range(len(table))]
        rows.append(tuple([recipe_for(table, column, reference)[2] for reference in references]))
    return tuple(rows)
