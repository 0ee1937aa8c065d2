"""Sections: the values of a column as entries, patches and codes."""

from refpack.codes import packed_length
from refpack.errors import BadSection
from refpack.residuals import grouped_residuals, groups_of, residuals_of
from refpack.tables import is_permitted
from refpack.windows import base_of, most_frequent

# The order of the kinds counts in plans and files. The first three have no reference.
KINDS = ("frame", "step", "dictionary", "offset", "lookup")
GREATEST_WIDTH = 32


def has_reference(kind):
    """Whether sections of the kind are stored relative to another column."""
    return kind in ("offset", "lookup")


def has_one_entry(kind):
    """Whether sections of the kind have one entry, whatever the values are."""
    return kind in ("frame", "step", "offset")


def size_with(many, width, entry_count, patch_count):
    """The number of bytes of a section for so many rows."""
    return 7 + 4 * entry_count + 6 * patch_count + packed_length(many, width)


def section_size(width, section):
    """The number of bytes of a section."""
    entries, patches, codes = section
    return size_with(len(codes), width, len(entries), len(patches))


def entries_of(kind, width, values, reference):
    """The entries that a section of the recipe has."""
    if kind == "dictionary":
        return most_frequent(values, 1 << width)
    return tuple([base_of(residuals, width) for residuals in grouped_residuals(kind, values, reference)])


def _entry_of_each_row(kind, entries, many, reference):
    """The entry of the group of each row."""
    found = [0] * many
    for entry, rows in zip(entries, groups_of(kind, many, reference)):
        for row in rows:
            found[row] = entry
    return found


def _places_of_first(entries, most):
    """The index of the first entry of each value, among so many entries."""
    places = {}
    for place, entry in enumerate(entries[:most]):
        places.setdefault(entry, place)
    return places


def _least_codes(kind, width, entries, values, reference):
    """The least code that gives the value of each row, None where no code does."""
    many_codes = 1 << width
    if kind == "dictionary":
        places = _places_of_first(entries, many_codes)
        return [places.get(value) for value in values]
    residuals = residuals_of(kind, values, reference)
    row_entries = _entry_of_each_row(kind, entries, len(values), reference)
    codes = [residual - entry for residual, entry in zip(residuals, row_entries)]
    return [code if 0 <= code < many_codes else None for code in codes]


def section_with(kind, width, entries, values, reference):
    """The section with the given entries."""
    codes = _least_codes(kind, width, entries, values, reference)
    patches = [(row, value) for row, value in enumerate(values) if codes[row] is None]
    return entries, tuple(patches), tuple([0 if code is None else code for code in codes])


def section_of(kind, width, values, reference):
    """The section of the recipe."""
    return section_with(kind, width, entries_of(kind, width, values, reference), values, reference)


def _row_starts(kind, entries, many, reference):
    """For each row what its code is added to; for step without the value of the row before it."""
    starts = _entry_of_each_row(kind, entries, many, reference)
    if kind == "offset":
        return [start + other for start, other in zip(starts, reference)]
    return starts


def _given_values(kind, section, reference):
    """The values that entries and codes give, without patches; None where the code is no index.

    For step they are differences to the row before.
    """
    entries, _, codes = section
    if kind == "dictionary":
        return [entries[code] if code < len(entries) else None for code in codes]
    starts = _row_starts(kind, entries, len(codes), reference)
    return [start + code for start, code in zip(starts, codes)]


def _has_right_entries(kind, section, reference):
    entries, _, codes = section
    return kind == "dictionary" or len(entries) == len(groups_of(kind, len(codes), reference))


def stored_values(kind, section, reference, label_count):
    """The values that the section stores."""
    if not _has_right_entries(kind, section, reference):
        raise BadSection(None)
    patched = dict(section[1])
    values = []
    before = 0
    for row, given in enumerate(_given_values(kind, section, reference)):
        value = before + given if kind == "step" else given
        value = patched.get(row, value)
        if value is None or not is_permitted(value, label_count):
            raise BadSection(row)
        values.append(value)
        before = value
    return tuple(values)
