"""Plans of tables computed slowly, by trying all of them, and names for random pairs and references."""

import itertools

from slow_costs import EVERY, random_fixed, random_pairs
from slow_files import KINDS

from refpack.sections import section_of, section_size


def tied_by_trying(values, reference):
    """The least size, and all kinds and widths that have it, in order."""
    kinds = KINDS[:3] if reference is None else KINDS[3:]
    sizes = [(kind, width, section_size(width, section_of(kind, width, values, reference)))
             for kind in kinds for width in range(33)]
    least = min(size for _, _, size in sizes)
    return least, [(kind, width) for kind, width, size in sizes if size == least]


def key_of(kind, place, width):
    return KINDS.index(kind), -1 if place is None else place, width


class SlowPlans:
    """All plans of a table, by trying all choices, kinds and widths."""

    def __init__(self, table, fixed=()):
        self.table = table
        places = [None, *range(len(table))]
        self.tied = {(place, other): tied_by_trying(table[place][2], None if other is None else table[other][2])
                     for place in range(len(table)) for other in places if other != place}
        names = [column[0] for column in table]
        self.choices = [choice for choice in EVERY[len(table)] if all(
            choice[names.index(name)] == (None if other is None else names.index(other)) for name, other in fixed)]

    def total(self, choice):
        return sum(self.tied[arc][0] for arc in enumerate(choice))

    def least_total(self):
        return min(self.total(choice) for choice in self.choices)

    def plan_of(self, keys):
        return tuple((KINDS[kind], None if place < 0 else self.table[place][0], width) for kind, place, width in keys)

    def first_with(self, choices):
        """The first of the plans that have one of the choices and best recipes."""
        return self.plan_of(min([key_of(self.tied[arc][1][0][0], arc[1], self.tied[arc][1][0][1])
                                 for arc in enumerate(choice)] for choice in choices))

    def least_choices(self):
        least = self.least_total()
        return [choice for choice in self.choices if self.total(choice) == least]

    def first(self):
        """The first least plan."""
        return self.first_with(self.least_choices())

    def every_least(self):
        """All least plans, in order."""
        found = []
        for choice in self.least_choices():
            tied = [[key_of(kind, place, width) for kind, width in self.tied[column, place][1]]
                    for column, place in enumerate(choice)]
            found.extend(itertools.product(*tied))
        return [self.plan_of(keys) for keys in sorted(found)]

    def need(self, choice, members):
        """The bytes of the sections that are needed for the columns at these indices."""
        needed = []
        for column in members:
            while column is not None and column not in needed:
                needed.append(column)
                column = choice[column]
        return sum(self.tied[column, choice[column]][0] for column in needed)


def named_fixed(source, table):
    """Fixed references by names that are not circular."""
    names = [column[0] for column in table]
    return tuple((names[column], None if reference is None else names[reference])
                 for column, reference in random_fixed(source, len(table)))


def named_pairs(source, table):
    """Some certificate with names in any order."""
    return tuple((tuple(table[place][0] for place in members), amount)
                 for members, amount in random_pairs(source, len(table)))
