"""Least choices: references for all columns with the least total cost, without circles."""

from refpack.errors import CircularReferences
from refpack.references import circle_of


def cost_place(column, reference):
    """The index among the costs of a column at which the one with this reference, or without one, stands."""
    return column if reference is None else reference


def arc_cost(costs, column, reference):
    """The cost of a column with this reference, or without one."""
    return costs[column][cost_place(column, reference)]


def total_cost(costs, choice):
    """The total cost of the choice, None if it is circular."""
    if circle_of(choice) is not None:
        return None
    return sum([arc_cost(costs, column, reference) for column, reference in enumerate(choice)])


def options_of(many, fixed):
    """For each of so many columns what it can refer to, None first and columns ascending."""
    fixed_references = dict(fixed)
    if circle_of(tuple([fixed_references.get(column) for column in range(many)])) is not None:
        raise CircularReferences("the fixed references are circular")
    options = []
    for column in range(many):
        others = [place for place in range(many) if place != column]
        options.append((fixed_references[column],) if column in fixed_references else (None, *others))
    return tuple(options)


def _least_of_set(costs, options, totals, members):
    """t of a set from t of its subsets, None if it does not exist."""
    sums = []
    for column in range(len(costs)):
        rest = members & ~(1 << column)
        if rest == members or totals[rest] is None:
            continue
        for reference in options[column]:
            if reference is None or (rest >> reference) & 1:
                sums.append(totals[rest] + arc_cost(costs, column, reference))
    return min(sums, default=None)


def set_totals(costs, options):
    """t of each set of columns with these options, None where it does not exist.

    The index of a set has the bit 1 << c for each of its columns c.
    """
    totals = [0]
    for members in range(1, 1 << len(costs)):
        totals.append(_least_of_set(costs, options, totals, members))
    return tuple(totals)


def least_with(costs, options):
    """The least total with these options, None if every choice that has them is circular."""
    return set_totals(costs, options)[-1]


def least_total(costs, *, fixed=()):
    """The least total cost of all choices that count and are not circular."""
    return least_with(costs, options_of(len(costs), fixed))


def _floors_of(costs, options):
    """For each column the sum of the least costs of this column and those behind it, circles or not."""
    floors = [0]
    for column in reversed(range(len(costs))):
        least = min([arc_cost(costs, column, reference) for reference in options[column]])
        floors.append(floors[-1] + least)
    return tuple(reversed(floors))


def _is_open(begun, many):
    """Whether references of the first of so many columns are not circular."""
    others = (None,) * (many - len(begun))
    return circle_of(begun + others) is None


def _completions(costs, options, floors, begun, left):
    """The choices that begin so, are not circular, and whose other columns cost what is left, in order."""
    column = len(begun)
    if column == len(costs):
        yield begun
        return
    for reference in options[column]:
        longer = (*begun, reference)
        still_left = left - arc_cost(costs, column, reference)
        if still_left >= floors[column + 1] and _is_open(longer, len(costs)):
            yield from _completions(costs, options, floors, longer, still_left)


def each_least(costs, *, fixed=()):
    """All least choices, in order."""
    options = options_of(len(costs), fixed)
    floors = _floors_of(costs, options)
    least = least_with(costs, options)
    begun = ()
    yield from _completions(costs, options, floors, begun, least)


def first_least(costs, *, fixed=()):
    """The first least choice."""
    # There always is one: all columns that are not fixed can have no reference.
    for choice in each_least(costs, fixed=fixed):
        return choice


def count_least(costs, *, fixed=()):
    """The number of least choices."""
    return len(list(each_least(costs, fixed=fixed)))


def with_options(options, column, references):
    """The options, but with other ones for a column."""
    return (*options[:column], tuple(references), *options[column + 1:])


def cheapest_branches(costs, families, column):
    """What the column refers to in the cheapest of all choices that any of the families of options allows.

    A dict from the reference, or None, to the families that allow such choices, narrowed to this reference.
    """
    found = []
    for options in families:
        for reference in options[column]:
            narrowed = with_options(options, column, (reference,))
            found.append((reference, narrowed, least_with(costs, narrowed)))
    least = min([total for _, _, total in found if total is not None])
    branches = {}
    for reference, narrowed, total in found:
        if total == least:
            branches.setdefault(reference, []).append(narrowed)
    return branches


def switch_of(costs, column, reference, *, fixed=()):
    """The least totals of the choices that have this reference of the column, and of those that do not."""
    options = options_of(len(costs), fixed)
    same = [option for option in options[column] if option == reference]
    others = [option for option in options[column] if option != reference]
    with_it = least_with(costs, with_options(options, column, same))
    without_it = least_with(costs, with_options(options, column, others))
    return with_it, without_it
