"""Files from what they say: the header and the sections as integers from 0 to 255."""

from refpack.codes import packed_codes
from refpack.fields import i32_numbers, u16_numbers
from refpack.plans import choice_of, plan_sections
from refpack.sections import KINDS
from refpack.tables import heads_of, row_count

SIGNATURE = (82, 80)


def _text_numbers(text):
    """The length of a text and the ASCII codes of its characters."""
    return [len(text), *[ord(character) for character in text]]


def _head_numbers(name, labels):
    """The integers of a column in the header."""
    many = 0 if labels is None else len(labels)
    numbers = [*_text_numbers(name), many]
    for label in labels or ():
        numbers.extend(_text_numbers(label))
    return numbers


def _header_numbers(rows, heads):
    """The integers of the header for so many rows."""
    numbers = [*SIGNATURE, *u16_numbers(rows), len(heads)]
    for name, labels in heads:
        numbers.extend(_head_numbers(name, labels))
    return numbers


def header_of(table):
    """The header of every file of the table."""
    return tuple(_header_numbers(row_count(table), heads_of(table)))


def _section_numbers(recipe, section):
    """The integers of a section."""
    kind, reference, width = recipe
    entries, patches, codes = section
    numbers = [KINDS.index(kind), 0 if reference is None else reference, width]
    numbers.extend(u16_numbers(len(entries)))
    for entry in entries:
        numbers.extend(i32_numbers(entry))
    numbers.extend(u16_numbers(len(patches)))
    for row, value in patches:
        numbers.extend(u16_numbers(row))
        numbers.extend(i32_numbers(value))
    numbers.extend(packed_codes(codes, width))
    return numbers


def written(contents):
    """The file that says this: a number of rows, and a part for each column."""
    rows, parts = contents
    # A list of its own, which alone is changed here: properties of stores call this.
    numbers = list(_header_numbers(rows, [(name, labels) for name, labels, _, _ in parts]))
    for _, _, recipe, section in parts:
        numbers.extend(_section_numbers(recipe, section))
    return tuple(numbers)


def encode(table, plan):
    """The file of the plan."""
    choice = choice_of(table, plan)
    parts = []
    for column, recipe, place, section in zip(table, plan, choice, plan_sections(table, plan)):
        name, labels, _ = column
        kind, _, width = recipe
        parts.append((name, labels, (kind, place, width), section))
    return written((row_count(table), tuple(parts)))
