"""Tables and plans from files: the values of the columns are computed from their sections."""

from refpack.errors import BadSection, BadValues, CircularReferences
from refpack.parsing import parsed
from refpack.plans import named_recipe, sizes_with
from refpack.references import computing_order, reached_columns
from refpack.sections import stored_values
from refpack.tables import header_size, label_count_of


def choice_in(parts):
    """The references of the parts."""
    return tuple([reference for _, _, (_, reference, _), _ in parts])


def values_in(parts, order):
    """The values of the columns of the order, by their indices; each one behind its reference."""
    found = {}
    for place in order:
        name, labels, (kind, reference, _), section = parts[place]
        try:
            found[place] = stored_values(kind, section, found.get(reference), label_count_of(labels))
        except BadSection as fault:
            raise BadValues(name, fault.row)
    return found


def values_reached(parts, places):
    """The values of these columns and of all that they refer to, by their indices; other columns are not looked at."""
    choice = choice_in(parts)
    reached = reached_columns(choice, places)
    values = values_in(parts, [place for place in computing_order(choice) if place in reached])
    if len(values) < len(reached):
        raise CircularReferences("a column cannot be computed")
    return values


def computed(contents):
    """The table that a number of rows and parts give."""
    _, parts = contents
    values = values_reached(parts, tuple(range(len(parts))))
    return tuple([(name, labels, values[place]) for place, (name, labels, _, _) in enumerate(parts)])


def read_with_sections(numbers):
    """The table and the plan of a file, and the sections that it has."""
    contents = parsed(numbers)
    table = computed(contents)
    _, parts = contents
    plan = [named_recipe(table, recipe) for _, _, recipe, _ in parts]
    return table, tuple(plan), tuple([section for _, _, _, section in parts])


def read_file(numbers):
    """The table of a file, and the plan with its recipes."""
    table, plan, _ = read_with_sections(numbers)
    return table, plan


def listed(numbers):
    """What each column of a file has: recipe, numbers of entries and patches, place and size of its section."""
    table, plan, sections = read_with_sections(numbers)
    place = header_size(table)
    found = []
    for column, recipe, section, size in zip(table, plan, sections, sizes_with(plan, sections)):
        entries, patches, _ = section
        found.append((column[0], *recipe, len(entries), len(patches), place, size))
        place = place + size
    return tuple(found)
