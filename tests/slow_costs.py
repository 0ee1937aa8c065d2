"""Costs, choices and certificates computed slowly, word by word, for comparison."""

import itertools

COSTS = ((13, 12, 12), (12, 14, 11), (12, 11, 14))
CIRCULAR = (((0, 0),), ((0, 1), (1, 0)), ((2, 0), (1, 2), (0, 1)), ((0, None), (1, 2), (2, 1)), ((0, 1), (1, 1)))


def is_circular(choice):
    for column in range(len(choice)):
        for _ in choice:
            column = None if column is None else choice[column]
        if column is not None:
            return True
    return False


def every_choice(many):
    """All choices that are not circular, in their order."""
    options = [(None, *(other for other in range(many) if other != column)) for column in range(many)]
    return [choice for choice in itertools.product(*options) if not is_circular(choice)]


EVERY = {many: every_choice(many) for many in range(1, 6)}


def cost_of(costs, choice):
    return sum(costs[column][column if reference is None else reference] for column, reference in enumerate(choice))


def counting(many, fixed):
    """The choices that have the fixed references and are not circular."""
    return [choice for choice in EVERY[many] if all(choice[column] == reference for column, reference in fixed)]


def subsets(many):
    """All non-empty sets of so many columns."""
    return [members for size in range(1, many + 1) for members in itertools.combinations(range(many), size)]


def arcs_of(costs, fixed):
    """All arcs with their remaining costs, by the reference (or "start") and the column."""
    found = {}
    for column, row in enumerate(costs):
        for reference, cost in enumerate(row):
            found["start" if reference == column else reference, column] = cost
    for column, reference in fixed:
        only = "start" if reference is None else reference
        found = {arc: cost for arc, cost in found.items() if arc[1] != column or arc[0] == only}
    return found


def reaches(arcs, start, end):
    met = [start]
    for vertex in met:
        met.extend(column for reference, column in arcs if reference == vertex and column not in met)
    return end in met


def is_source_component(costs, fixed, members):
    tight = [arc for arc, cost in arcs_of(costs, fixed).items() if cost == 0]
    joined = all(reaches(tight, start, end) for start in members for end in members)
    return joined and not any(column in members and reference not in members for reference, column in tight)


def all_source_components(costs, fixed):
    found = [members for members in subsets(len(costs)) if is_source_component(costs, fixed, members)]
    return tuple(sorted(found))


def random_fixed(source, many, share=0.25):
    """Fixed references that are not circular, in any order."""
    order = source.sample(range(many), many)
    fixed = []
    for place, column in enumerate(order):
        if source.random() < share:
            fixed.append((column, source.choice((None, *order[:place]))))
    return tuple(source.sample(fixed, len(fixed)))


def random_case(source):
    """Costs with many zeros and equal ones, and fixed references that are not circular."""
    many = source.choice((1, 2, 3, 3, 4, 4, 5))
    reach = source.choice((1, 2, 6, 1000000))
    costs = tuple(tuple(source.choice((0, 1, reach, source.randint(0, reach))) for _ in range(many))
                  for _ in range(many))
    return costs, random_fixed(source, many)


def random_members(source, many):
    """A set of columns, in any order."""
    return tuple(source.sample(range(many), source.randint(1, many)))


def random_pairs(source, many):
    """Pairs, some of them with the same set, whose loads may exceed costs by far."""
    reach = source.choice((1, 2, 6, 1000000))
    pairs = [(random_members(source, many), source.randint(0, reach)) for _ in range(source.choice((0, 1, 2, 5)))]
    pairs += [(members[::-1], source.randint(0, reach)) for members, _ in pairs if source.random() < 0.3]
    return tuple(pairs)
