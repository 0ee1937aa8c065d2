"""What a file says: its header and its sections, read from the first integer to the last one.

Each function that reads is passed the place where it begins, and returns what it has read and the place behind it.
"""

from refpack.codes import packed_length, unpacked_codes
from refpack.errors import BadFile
from refpack.fields import i32_at, u16_at
from refpack.sections import GREATEST_WIDTH, KINDS, has_one_entry, has_reference
from refpack.tables import (
    MOST_COLUMNS, MOST_LABEL_CHARACTERS, MOST_LABELS, MOST_NAME_CHARACTERS, MOST_ROWS, is_name,
)
from refpack.writing import SIGNATURE

# In the order of their ASCII codes from 32 on; the character with the code 37 never occurs in strings.
CHARACTERS = " !\"#$&'()*+,-./0123456789:;<=>?@ABCDEFGHIJKLMNOPQRSTUVWXYZ[\\]^_`abcdefghijklmnopqrstuvwxyz{|}~"


def _behind(numbers, place, many):
    """The place behind so many integers, which the file must have."""
    if place + many > len(numbers):
        raise BadFile(len(numbers), "end")
    return place + many


def _u8(numbers, place):
    end = _behind(numbers, place, 1)
    return numbers[place], end


def _u16(numbers, place):
    end = _behind(numbers, place, 2)
    return u16_at(numbers, place), end


def _i32(numbers, place):
    end = _behind(numbers, place, 4)
    return i32_at(numbers, place), end


def _text(numbers, place, many):
    """So many characters, None in the place of a text if one of them never occurs in strings."""
    end = _behind(numbers, place, many)
    characters = {ord(character): character for character in CHARACTERS}
    found = [characters.get(number) for number in numbers[place:end]]
    text = None if None in found else "".join(found)
    return text, end


def _start(numbers):
    """The number of rows, the number of columns."""
    place = _behind(numbers, 0, len(SIGNATURE))
    if numbers[:place] != SIGNATURE:
        raise BadFile(0, "signature")
    rows, columns_place = _u16(numbers, place)
    if rows > MOST_ROWS:
        raise BadFile(place, "rows")
    columns, end = _u8(numbers, columns_place)
    if not 1 <= columns <= MOST_COLUMNS:
        raise BadFile(columns_place, "columns")
    return rows, columns, end


def _name(numbers, place, earlier):
    """A name that none of the earlier columns has."""
    length, first = _u8(numbers, place)
    if not 1 <= length <= MOST_NAME_CHARACTERS:
        raise BadFile(place, "name length")
    name, end = _text(numbers, first, length)
    if name is None or not is_name(name):
        raise BadFile(first, "name")
    if name in earlier:
        raise BadFile(first, "duplicate name")
    return name, end


def _label(numbers, place, earlier):
    """A label that is none of the earlier ones."""
    length, first = _u8(numbers, place)
    if length > MOST_LABEL_CHARACTERS:
        raise BadFile(place, "label length")
    label, end = _text(numbers, first, length)
    if label is None:
        raise BadFile(place, "label")
    if label in earlier:
        raise BadFile(place, "duplicate label")
    return label, end


def _labels(numbers, place):
    """The labels of a column, None if it has none."""
    many, end = _u8(numbers, place)
    if many > MOST_LABELS:
        raise BadFile(place, "labels")
    labels = []
    for _ in range(many):
        label, end = _label(numbers, end, labels)
        labels.append(label)
    return tuple(labels) if labels else None, end


def header_in(numbers):
    """The number of rows and the heads, and the place behind the header."""
    rows, columns, end = _start(numbers)
    heads = []
    for _ in range(columns):
        name, end = _name(numbers, end, [head[0] for head in heads])
        labels, end = _labels(numbers, end)
        heads.append((name, labels))
    return rows, tuple(heads), end


def _recipe(numbers, place, columns):
    """The kind, the index of the reference and the width of a section."""
    number, argument_place = _u8(numbers, place)
    if number >= len(KINDS):
        raise BadFile(place, "kind")
    kind = KINDS[number]
    argument, width_place = _u8(numbers, argument_place)
    arguments = columns if has_reference(kind) else 1
    if argument >= arguments:
        raise BadFile(argument_place, "argument")
    width, end = _u8(numbers, width_place)
    if width > GREATEST_WIDTH:
        raise BadFile(width_place, "width")
    reference = argument if has_reference(kind) else None
    return (kind, reference, width), end


def _entries(numbers, place, kind):
    """The entries of a section."""
    many, end = _u16(numbers, place)
    if has_one_entry(kind) and many != 1:
        raise BadFile(place, "entries")
    entries = []
    for _ in range(many):
        entry, end = _i32(numbers, end)
        entries.append(entry)
    return tuple(entries), end


def _patch(numbers, place, least_row, rows):
    """A patch of a row that is not less than the least one."""
    row, value_place = _u16(numbers, place)
    if not least_row <= row < rows:
        raise BadFile(place, "patch")
    value, end = _i32(numbers, value_place)
    return (row, value), end


def _patches(numbers, place, rows):
    """The patches of a section."""
    many, end = _u16(numbers, place)
    patches = []
    least_row = 0
    for _ in range(many):
        patch, end = _patch(numbers, end, least_row, rows)
        patches.append(patch)
        least_row = patch[0] + 1
    return tuple(patches), end


def _codes(numbers, place, many, width):
    """The codes of a section."""
    end = _behind(numbers, place, packed_length(many, width))
    codes = unpacked_codes(numbers[place:end], many, width)
    if codes is None:
        raise BadFile(end - 1, "bits")
    return codes, end


def section_in(numbers, place, rows, columns):
    """The recipe and the section that begins at the place, in a file with so many rows and columns."""
    recipe, end = _recipe(numbers, place, columns)
    kind, _, width = recipe
    entries, end = _entries(numbers, end, kind)
    patches, end = _patches(numbers, end, rows)
    codes, end = _codes(numbers, end, rows, width)
    return recipe, (entries, patches, codes), end


def _check_end(numbers, place):
    """The file ends at this place."""
    if place < len(numbers):
        raise BadFile(place, "more")


def parsed(numbers):
    """The number of rows and the parts that a file says."""
    rows, heads, end = header_in(numbers)
    parts = []
    for name, labels in heads:
        recipe, section, end = section_in(numbers, end, rows, len(heads))
        parts.append((name, labels, recipe, section))
    _check_end(numbers, end)
    return rows, tuple(parts)


def arrived_sections(numbers):
    """The number of sections that are whole in what may be only the beginning of a file.

    No fault but the end is passed over.
    """
    many = 0
    try:
        rows, heads, end = header_in(numbers)
        for _ in heads:
            _, _, end = section_in(numbers, end, rows, len(heads))
            many += 1
        _check_end(numbers, end)
    except BadFile as fault:
        if fault.reason != "end":
            raise
    return many
