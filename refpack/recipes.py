"""Recipes: the sizes of the sections that a kind and a width give, and the smallest ones."""

from refpack.residuals import grouped_residuals
from refpack.sections import GREATEST_WIDTH, KINDS, size_with
from refpack.windows import cover_of, digits_of, frequencies, spread_of


def kinds_with(reference):
    """The kinds with such a reference, or without one."""
    return KINDS[:3] if reference is None else KINDS[3:]


def _parts_of(kind, values, reference):
    """What the sizes of all widths are computed from.

    For dictionary the frequencies, the greatest first, for the other kinds the residuals of each group.
    """
    if kind == "dictionary":
        return sorted([frequency for _, frequency in frequencies(values)], reverse=True)
    return grouped_residuals(kind, values, reference)


def _size_from(parts, kind, width, many):
    """The number of bytes of the section with these parts for so many rows."""
    if kind == "dictionary":
        chosen = parts[:1 << width]
        return size_with(many, width, len(chosen), many - sum(chosen))
    covered = sum([cover_of(residuals, width) for residuals in parts])
    return size_with(many, width, len(parts), many - covered)


def _full_width_from(parts, kind):
    if kind == "dictionary":
        return digits_of(max(len(parts) - 1, 0))
    return max([digits_of(spread_of(residuals)) for residuals in parts], default=0)


def made_size(kind, width, values, reference):
    """The number of bytes of the section of the recipe."""
    return _size_from(_parts_of(kind, values, reference), kind, width, len(values))


def full_width(kind, values, reference):
    """The least width with which the section of the recipe has no patches."""
    return _full_width_from(_parts_of(kind, values, reference), kind)


def all_sizes(values, reference):
    """The triples of a kind, a width up to its full width, and the bytes."""
    triples = []
    for kind in kinds_with(reference):
        parts = _parts_of(kind, values, reference)
        for width in range(_full_width_from(parts, kind) + 1):
            triples.append((kind, width, _size_from(parts, kind, width, len(values))))
    return tuple(triples)


def best_recipe(values, reference):
    """The triple of the kind, the width and the bytes of the first recipe with the least section."""
    return min(all_sizes(values, reference), key=lambda triple: triple[2])


def best_recipes(values, reference):
    """The pairs of the kind and the width of all recipes with the least section."""
    least = best_recipe(values, reference)[2]
    pairs = []
    for kind in kinds_with(reference):
        parts = _parts_of(kind, values, reference)
        for width in range(GREATEST_WIDTH + 1):
            if _size_from(parts, kind, width, len(values)) == least:
                pairs.append((kind, width))
    return tuple(pairs)
