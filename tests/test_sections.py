"""[40] to [48]: kinds, sections, their sizes, entries, given entries, recipes, permitted values and faults."""

import itertools
import random
import unittest

from refpack.errors import BadSection
from refpack.sections import entries_of, section_of, section_size, section_with, stored_values

STATE = (8, 3, 5, 3, 5, 8)
LEVEL = (20, 21, 23, 20, 90, 22)
GREATEST = 1000000000
KINDS = ("frame", "step", "dictionary", "offset", "lookup")


def random_values(source, many):
    reach = source.choice((2, 9, 100, GREATEST))
    return tuple(source.choice((-reach, reach, source.randint(-reach, reach))) for _ in range(many))


def random_case(source):
    """A kind, some values, and the values of a reference or None."""
    kind = source.choice(KINDS)
    many = source.choice((0, 1, 2, 5, 12, 24))
    values = random_values(source, many)
    return kind, values, random_values(source, many) if kind in ("offset", "lookup") else None


def value_by_table(kind, entries, code, row, before, reference):
    """The value of a row that is not patched, word by word from the table of [42]; None if there is none."""
    if kind == "frame":
        return entries[0] + code
    if kind == "step":
        return before + entries[0] + code
    if kind == "dictionary":
        return entries[code] if code < len(entries) else None
    if kind == "offset":
        return reference[row] + entries[0] + code
    return entries[sorted(set(reference)).index(reference[row])] + code


def expected_codes(kind, width, entries, values, reference):
    """The least code of each row by trying all codes, None where no code gives the value."""
    codes = []
    for row, value in enumerate(values):
        before = values[row - 1] if row else 0
        fitting = [code for code in range(2 ** width)
                   if value_by_table(kind, entries, code, row, before, reference) == value]
        codes.append(min(fitting, default=None))
    return codes


class DocumentTests(unittest.TestCase):

    def test_sections_of_the_table(self):
        higher = (25, 26, 29, 26, 95, 27)
        tariff = (70, 30, 50, 31, 50, 70)
        steps = (5, 5, 5, 8, 8, 8)
        cases = (
            ("frame", 2, LEVEL, None, ((20,), ((4, 90),), (0, 1, 3, 0, 0, 2)), 19),
            ("offset", 1, higher, LEVEL, ((5,), (), (0, 0, 1, 1, 0, 0)), 12),
            ("dictionary", 1, STATE, None, ((3, 5), ((0, 8), (5, 8)), (0, 0, 1, 0, 1, 0)), 28),
            ("lookup", 0, tariff, STATE, ((30, 50, 70), ((3, 31),), (0, 0, 0, 0, 0, 0)), 25),
            ("step", 0, steps, None, ((0,), ((0, 5), (3, 8)), (0, 0, 0, 0, 0, 0)), 23),
        )
        for kind, width, values, reference, section, size in cases:
            self.assertEqual(entries_of(kind, width, values, reference), section[0])
            self.assertEqual(section_of(kind, width, values, reference), section)
            self.assertEqual(section_with(kind, width, section[0], values, reference), section)
            self.assertEqual(section_size(width, section), size)
            self.assertEqual(stored_values(kind, section, reference, None), values)

    def test_examples_of_the_interface(self):
        self.assertEqual(section_with("frame", 2, (21,), LEVEL, None),
                         ((21,), ((0, 20), (3, 20), (4, 90)), (0, 0, 2, 0, 0, 1)))
        with self.assertRaises(BadSection) as caught:
            stored_values("frame", ((5,), (), (0, 1, 0)), None, 6)
        self.assertEqual(caught.exception.row, 1)


class SizeTests(unittest.TestCase):

    def test_size(self):
        self.assertEqual(section_size(0, ((), (), ())), 7)
        self.assertEqual(section_size(32, ((), (), ())), 7)
        self.assertEqual(section_size(0, ((1,), (), (0,) * 24)), 11)
        self.assertEqual(section_size(32, ((1,), (), (0,) * 24)), 11 + 96)
        self.assertEqual(section_size(1, ((1, 2, 3), ((0, 5), (7, 5)), (0,) * 9)), 7 + 12 + 12 + 2)
        self.assertEqual(section_size(3, ((1,) * 40, ((2, 5),), (7,) * 8)), 7 + 160 + 6 + 3)


class EntryTests(unittest.TestCase):

    def test_without_rows(self):
        for kind, reference in (("frame", None), ("step", None), ("dictionary", None), ("offset", ()), ("lookup", ())):
            entries = () if kind in ("dictionary", "lookup") else (0,)
            for width in (0, 1, 32):
                self.assertEqual(entries_of(kind, width, (), reference), entries)
                self.assertEqual(section_of(kind, width, (), reference), (entries, (), ()))
                self.assertEqual(section_with(kind, width, entries, (), reference), (entries, (), ()))
            self.assertEqual(stored_values(kind, (entries, (), ()), reference, None), ())
            self.assertEqual(stored_values(kind, (entries, (), ()), reference, 3), ())

    def test_base_of_each_group(self):
        values = (5, 100, 6, 9, 101, 103, 7)
        reference = (2, -1, 2, 2, -1, -1, 2)
        self.assertEqual(entries_of("lookup", 0, values, reference), (100, 5))
        self.assertEqual(entries_of("lookup", 1, values, reference), (100, 5))
        self.assertEqual(entries_of("lookup", 2, values, reference), (100, 5))
        self.assertEqual(entries_of("frame", 2, values, None), (5,))
        self.assertEqual(entries_of("offset", 0, values, reference), (3,))

    def test_dictionary(self):
        values = (4, 4, 9, 9, 1, -2)
        self.assertEqual(entries_of("dictionary", 0, values, None), (4,))
        self.assertEqual(entries_of("dictionary", 1, values, None), (4, 9))
        self.assertEqual(entries_of("dictionary", 2, values, None), (-2, 1, 4, 9))
        self.assertEqual(entries_of("dictionary", 32, values, None), (-2, 1, 4, 9))

    def test_greatest_values(self):
        self.assertEqual(entries_of("step", 0, (GREATEST, -GREATEST), None), (-2 * GREATEST,))
        self.assertEqual(entries_of("offset", 32, (GREATEST,), (-GREATEST,)), (2 * GREATEST,))


class GivenEntriesTests(unittest.TestCase):

    def test_against_all_codes(self):
        source = random.Random(46)
        for _ in range(600):
            kind, values, reference = random_case(source)
            values = tuple(source.randint(0, 12) for _ in values)
            width = source.choice((0, 1, 2, 3))
            number = len(set(reference)) if kind == "lookup" else source.randrange(7) if kind == "dictionary" else 1
            entries = tuple(source.randint(-3, 9) for _ in range(number))
            if kind == "offset":
                reference = tuple(source.randint(0, 12) for _ in values)
            codes = expected_codes(kind, width, entries, values, reference)
            patches = tuple((row, value) for row, value in enumerate(values) if codes[row] is None)
            section = (entries, patches, tuple(code or 0 for code in codes))
            self.assertEqual(section_with(kind, width, entries, values, reference), section, (kind, width))
            self.assertEqual(stored_values(kind, section, reference, None), values)

    def test_equal_entries_give_the_least_code(self):
        self.assertEqual(section_with("dictionary", 2, (5, 7, 5, 7), (7, 5, 7), None), ((5, 7, 5, 7), (), (1, 0, 1)))

    def test_entries_beyond_the_codes_have_no_effect(self):
        entries = (5, 7, 8, 9)
        self.assertEqual(section_with("dictionary", 1, entries, (7, 8, 5), None), (entries, ((1, 8),), (1, 0, 0)))
        self.assertEqual(section_with("dictionary", 0, entries, (7, 5), None), (entries, ((0, 7),), (0, 0)))
        many = tuple(range(40))
        self.assertEqual(section_with("dictionary", 5, many, (31, 32, 39), None),
                         (many, ((1, 32), (2, 39)), (31, 0, 0)))
        self.assertEqual(section_with("dictionary", 32, many, (31, 39), None), (many, (), (31, 39)))

    def test_no_entries(self):
        self.assertEqual(section_with("dictionary", 3, (), (4, 4), None), ((), ((0, 4), (1, 4)), (0, 0)))

    def test_entries_that_fit_nothing(self):
        for width in (0, 5):
            self.assertEqual(section_with("frame", width, (100,), (4, 5), None), ((100,), ((0, 4), (1, 5)), (0, 0)))
            self.assertEqual(section_with("frame", width, (-100,), (4, 5), None), ((-100,), ((0, 4), (1, 5)), (0, 0)))

    def test_step_counts_from_the_value_of_the_row_before(self):
        # Row 1 is patched; row 2 is a step from its value all the same.
        self.assertEqual(section_with("step", 1, (0,), (1, 50, 51), None), ((0,), ((1, 50),), (1, 0, 1)))

    def test_width_32_reaches_from_end_to_end(self):
        ends = (-GREATEST, GREATEST)
        self.assertEqual(section_with("frame", 32, (-2147483648,), ends, None),
                         ((-2147483648,), (), (1147483648, 3147483648)))
        self.assertEqual(section_with("frame", 31, (-GREATEST,), ends, None), ((-GREATEST,), (), (0, 2 * GREATEST)))
        self.assertEqual(section_with("step", 32, (-2 * GREATEST,), (GREATEST, -GREATEST, GREATEST), None),
                         ((-2 * GREATEST,), (), (3 * GREATEST, 0, 4 * GREATEST)))
        self.assertEqual(section_with("frame", 0, (2147483647,), ends, None)[1], ((0, -GREATEST), (1, GREATEST)))


class RecipeSectionTests(unittest.TestCase):

    def test_stores_the_values(self):
        source = random.Random(45)
        for _ in range(800):
            kind, values, reference = random_case(source)
            width = source.choice((0, 1, 2, 5, 16, 30, 31, 32))
            entries, patches, codes = section = section_of(kind, width, values, reference)
            self.assertEqual(section, section_with(kind, width, entries, values, reference))
            self.assertEqual(entries, entries_of(kind, width, values, reference))
            self.assertEqual(stored_values(kind, section, reference, None), values)
            self.assertEqual(len(codes), len(values))
            self.assertTrue(all(0 <= code < 2 ** width for code in codes))
            self.assertTrue(all(-2147483648 <= entry <= 2147483647 for entry in entries))
            self.assertEqual(patches, tuple((row, values[row]) for row, _ in patches))

    def test_no_window_needs_fewer_patches(self):
        source = random.Random(47)
        for _ in range(150):
            kind = source.choice(("frame", "step", "offset", "lookup"))
            many = source.randrange(8)
            values = tuple(source.randint(0, 6) for _ in range(many))
            reference = tuple(source.randint(0, 2) for _ in range(many)) if kind in ("offset", "lookup") else None
            width = source.randrange(4)
            number = len(set(reference)) if kind == "lookup" else 1
            patches = section_of(kind, width, values, reference)[1]
            fewest = min(len(section_with(kind, width, entries, values, reference)[1])
                         for entries in itertools.product(range(-8, 8), repeat=number))
            self.assertEqual(len(patches), fewest, (kind, width, values, reference))

    def test_no_dictionary_is_smaller(self):
        source = random.Random(48)
        for _ in range(150):
            values = tuple(source.randint(0, 4) for _ in range(source.randrange(8)))
            width = source.randrange(4)
            section = section_of("dictionary", width, values, None)
            others = [section_with("dictionary", width, entries, values, None)
                      for many in range(6) for entries in itertools.combinations(range(5), many)]
            self.assertEqual(section_size(width, section), min(section_size(width, other) for other in others))
            self.assertEqual(len(section[1]), min(len(other[1]) for other in others))


class FaultTests(unittest.TestCase):

    def check_fault(self, row, kind, section, reference=None, label_count=None):
        with self.assertRaises(BadSection) as caught:
            stored_values(kind, section, reference, label_count)
        self.assertEqual(caught.exception.row, row)

    def test_number_of_entries(self):
        for kind, reference in (("frame", None), ("step", None), ("offset", (1, 2))):
            for entries in ((), (0, 0), (0,) * 40):
                self.check_fault(None, kind, (entries, (), (0, 0)), reference)
        for entries in ((), (1,), (1, 2, 3)):
            self.check_fault(None, "lookup", (entries, (), (0, 0, 0)), (9, 4, 9))
        self.check_fault(None, "lookup", ((0,), (), ()), ())
        self.check_fault(None, "frame", ((), (), ()))
        self.check_fault(None, "offset", ((0, 0), (), ()), ())

    def test_number_of_entries_comes_before_values(self):
        self.check_fault(None, "frame", ((0, 0), ((0, GREATEST + 1),), (0,)))
        self.check_fault(None, "lookup", ((GREATEST + 1, 0), (), (0, 0)), (5, 5))

    def test_all_rows_patched_still_need_entries(self):
        self.check_fault(None, "step", ((), ((0, 4),), (0,)))

    def test_values_without_labels(self):
        for value in (GREATEST, -GREATEST):
            self.assertEqual(stored_values("frame", ((value,), (), (0,)), None, None), (value,))
            self.assertEqual(stored_values("frame", ((5,), ((0, value),), (3,)), None, None), (value,))
            self.assertEqual(stored_values("dictionary", ((value,), (), (0,)), None, None), (value,))
        for value in (GREATEST + 1, -GREATEST - 1, 2147483647, -2147483648):
            self.check_fault(0, "frame", ((value,), (), (0,)))
            self.check_fault(1, "frame", ((5,), ((1, value),), (3, 0)))
            self.check_fault(2, "dictionary", ((1, value), (), (0, 0, 1)))
        self.check_fault(1, "frame", ((GREATEST,), (), (0, 1)))
        self.check_fault(1, "frame", ((0,), (), (7, 4294967295)))

    def test_values_with_labels(self):
        for many in (1, 2, 6):
            self.assertEqual(stored_values("frame", ((0,), (), (0, many - 1)), None, many), (0, many - 1))
            self.check_fault(1, "frame", ((0,), (), (0, many)), None, many)
            self.check_fault(0, "frame", ((-1,), (), (0, 1)), None, many)
            self.check_fault(1, "frame", ((0,), ((1, many),), (0, 0)), None, many)
            self.check_fault(1, "frame", ((0,), ((1, -1),), (0, 0)), None, many)

    def test_the_first_row_is_told(self):
        self.check_fault(1, "dictionary", ((4, 9), ((3, GREATEST + 1),), (0, 2, 7, 0)))
        self.check_fault(1, "dictionary", ((4, 9), ((1, GREATEST + 1),), (0, 0, 7, 0)))
        self.check_fault(2, "step", ((2,), (), (0, 0, 0, 0)), None, 6)

    def test_code_that_is_no_index(self):
        self.check_fault(0, "dictionary", ((), (), (0,)))
        self.check_fault(1, "dictionary", ((7,), (), (0, 1)))
        self.assertEqual(stored_values("dictionary", ((7,), ((1, 5),), (0, 1)), None, None), (7, 5))
        self.assertEqual(stored_values("dictionary", ((), ((0, 5), (1, 6)), (4294967295, 0)), None, None), (5, 6))

    def test_the_code_of_a_patched_row_has_no_meaning(self):
        self.assertEqual(stored_values("frame", ((5,), ((0, 9),), (4294967295, 1)), None, None), (9, 6))
        self.assertEqual(stored_values("lookup", ((GREATEST + 1, 3), ((1, 2),), (0, 7)), (8, 4), None), (3, 2))

    def test_steps_from_a_patched_row(self):
        self.assertEqual(stored_values("step", ((1,), ((1, 50),), (0, 3, 2)), None, None), (1, 50, 53))

    def test_entries_that_no_row_uses(self):
        self.assertEqual(stored_values("dictionary", ((3, 2147483647, 3), (), (2, 0)), None, None), (3, 3))

    def test_random_sections(self):
        source = random.Random(42)
        for _ in range(1500):
            kind = source.choice(KINDS)
            many = source.randrange(6)
            reference = tuple(source.randint(-2, 2) for _ in range(many)) if kind in ("offset", "lookup") else None
            right = len(set(reference)) if kind == "lookup" else 1
            number = source.choice((right, right, right, source.randrange(4)))
            entries = tuple(source.choice((0, 1, 2, GREATEST, -GREATEST)) for _ in range(number))
            patches = tuple((row, source.choice((0, 1, 3, 5, GREATEST + 1)))
                            for row in range(many) if source.randrange(4) == 0)
            section = (entries, patches, tuple(source.randrange(4) for _ in range(many)))
            label_count = source.choice((None, 1, 3, 6))
            fault, values = self.expected(kind, section, reference, label_count, right)
            if fault == "none":
                self.assertEqual(stored_values(kind, section, reference, label_count), values)
            else:
                self.check_fault(fault, kind, section, reference, label_count)

    def expected(self, kind, section, reference, label_count, right):
        """The fault and the values so far, from the words of [48]."""
        entries, patches, codes = section
        values = []
        if kind != "dictionary" and len(entries) != right:
            return None, values
        low, high = (-GREATEST, GREATEST) if label_count is None else (0, label_count - 1)
        for row, code in enumerate(codes):
            before = values[-1] if values else 0
            value = value_by_table(kind, entries, code, row, before, reference)
            for patched, other in patches:
                value = other if patched == row else value
            if value is None or not low <= value <= high:
                return row, values
            values.append(value)
        return "none", tuple(values)


if __name__ == "__main__":
    unittest.main()
