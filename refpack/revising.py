"""Files behind changes of their tables, with the recipes that they had, and the columns that a change touches."""

from refpack.changes import changed
from refpack.plans import check_plan
from refpack.reading import read_file
from refpack.writing import encode


def touched(table, plan, change):
    """The names of the columns whose sections in the file of the plan can be others behind the change."""
    check_plan(table, plan)
    changed(table, (change,))
    names = [name for name, _, _ in table]
    if change[0] == "set":
        names = [name for name, recipe in zip(names, plan) if change[2] in (name, recipe[1])]
    return tuple(names)


def revised(numbers, changes):
    """The file of the table behind the changes, with the plan that the file had before."""
    table, plan = read_file(numbers)
    return encode(changed(table, changes), plan)
