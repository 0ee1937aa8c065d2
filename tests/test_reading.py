"""[125] and [126]: the tables that files give, what is raised and in which order, and what files have."""

import random
import unittest

from slow_files import (
    GREATEST, ORDERS, SMALL, TRIPS, random_contents, random_plan, random_table, slow_contents, slow_table,
)

from refpack.errors import BadFile, BadValues, CircularReferences
from refpack.plans import plan_sizes
from refpack.reading import computed, listed, read_file
from refpack.tables import header_size
from refpack.writing import encode, written


def frame(entry, *codes, patches=()):
    return ("frame", None, 8), ((entry,), patches, codes)


def offset(reference, entry, *codes):
    return ("offset", reference, 8), ((entry,), (), codes)


def lookup(reference, entries, *codes):
    return ("lookup", reference, 8), (entries, (), codes)


def contents_of(*parts, labels=None):
    """One row of codes or more; the columns are called a, b and so on."""
    return len(parts[0][1][2]), tuple((name, labels, *part) for name, part in zip("abcdef", parts))


def result_of(call, argument):
    try:
        return call(argument)
    except BadValues as fault:
        return "BadValues", fault.column, fault.row
    except CircularReferences:
        return ("CircularReferences",)


class ComputedTests(unittest.TestCase):

    def test_examples(self):
        self.assertEqual(read_file(SMALL), ((("a", None, (5, 6)),), (("frame", None, 1),)))
        with self.assertRaises(BadValues) as caught:
            read_file((*SMALL[:13], 120, *SMALL[14:]))
        self.assertEqual((caught.exception.column, caught.exception.row), ("a", 0))

    def test_references_in_any_order(self):
        contents = contents_of(offset(1, 1, 0, 1), lookup(2, (5, 70), 0, 2), frame(3, 9, 0))
        self.assertEqual(computed(contents), (("a", None, (71, 9)), ("b", None, (70, 7)), ("c", None, (12, 3))))

    def test_no_rows(self):
        contents = (0, (("a", ("x",), ("lookup", 1, 3), ((), (), ())), ("b", None, ("step", None, 0), ((7,), (), ()))))
        self.assertEqual(computed(contents), (("a", ("x",), ()), ("b", None, ())))
        spoilt = (0, (("a", None, ("lookup", 1, 3), ((1,), (), ())), ("b", None, ("step", None, 0), ((7,), (), ()))))
        self.assertEqual(result_of(computed, spoilt), ("BadValues", "a", None))

    def test_codes_of_patched_rows_mean_nothing(self):
        contents = contents_of(frame(7, 255, 1, patches=((0, -3),)))
        self.assertEqual(computed(contents), (("a", None, (-3, 8)),))
        wild = (1, (("a", None, ("dictionary", None, 8), ((), ((0, 4),), (9,))),))
        self.assertEqual(computed(wild), (("a", None, (4,)),))

    def test_dictionaries_with_equal_entries_and_others(self):
        section = ((4, 4, GREATEST * 2, 9), (), (1, 0, 3))
        self.assertEqual(computed((3, (("a", None, ("dictionary", None, 2), section),))), (("a", None, (4, 4, 9)),))
        section = ((4, 4), (), (1, 0, 2))
        self.assertEqual(result_of(computed, (3, (("a", None, ("dictionary", None, 2), section),))),
                         ("BadValues", "a", 2))
        self.assertEqual(result_of(computed, (1, (("a", None, ("dictionary", None, 0), ((), (), (0,))),))),
                         ("BadValues", "a", 0))

    def test_permitted_values(self):
        labels = ("no", "yes")
        self.assertEqual(computed(contents_of(frame(0, 0, 1), labels=labels)), (("a", labels, (0, 1)),))
        self.assertEqual(result_of(computed, contents_of(frame(0, 0, 2), labels=labels)), ("BadValues", "a", 1))
        self.assertEqual(result_of(computed, contents_of(frame(-1, 1, 0), labels=labels)), ("BadValues", "a", 1))
        for entry, row in ((GREATEST, 1), (-GREATEST - 1, 0), (2147483647, 0)):
            self.assertEqual(result_of(computed, contents_of(frame(entry, 0, 1))), ("BadValues", "a", row))
        self.assertEqual(computed(contents_of(frame(GREATEST - 1, 0, 1))), (("a", None, (GREATEST - 1, GREATEST)),))
        # A patch too must have a permitted value.
        self.assertEqual(result_of(computed, contents_of(frame(0, 0, 0, patches=((1, GREATEST + 1),)))),
                         ("BadValues", "a", 1))

    def test_the_reference_may_have_labels(self):
        contents = (2, (("a", ("x", "y", "z"), *frame(1, 1, 0)), ("b", None, *offset(0, 5, 0, 0))))
        self.assertEqual(computed(contents), (("a", ("x", "y", "z"), (2, 1)), ("b", None, (7, 6))))


class OrderTests(unittest.TestCase):

    def check_raised(self, contents, *expected):
        self.assertEqual(result_of(computed, contents), expected)
        self.assertEqual(result_of(read_file, written(contents)), expected)
        self.assertEqual(result_of(listed, written(contents)), expected)

    def test_circles(self):
        self.check_raised(contents_of(offset(0, 0, 0)), "CircularReferences")
        self.check_raised(contents_of(frame(0, 0), offset(2, 0, 0), offset(1, 0, 0)), "CircularReferences")
        self.check_raised(contents_of(offset(1, 0, 0), lookup(1, (0,), 0)), "CircularReferences")

    def test_a_fault_comes_before_a_circle(self):
        wrong = frame(2147483647, 0)
        self.check_raised(contents_of(offset(0, 0, 0), wrong), "BadValues", "b", 0)
        self.check_raised(contents_of(offset(1, 0, 0), offset(0, 0, 0), lookup(3, (), 0), frame(0, 0)),
                          "BadValues", "c", None)

    def test_a_fault_of_a_column_that_is_never_computed_is_not_seen(self):
        # Column b is on a circle, and c leads to it; both have the wrong number of entries.
        self.check_raised(contents_of(frame(0, 0), lookup(1, (), 0), lookup(1, (), 0)), "CircularReferences")

    def test_a_fault_behind_the_first_one_is_not_seen(self):
        wrong = frame(2147483647, 0)
        self.check_raised(contents_of(wrong, wrong), "BadValues", "a", 0)
        # The order is that of computing: b is computed before a.
        self.check_raised(contents_of(lookup(1, (), 0), frame(0, 0), wrong), "BadValues", "a", None)
        self.check_raised(contents_of(lookup(2, (), 0), wrong, frame(0, 0)), "BadValues", "b", 0)
        self.check_raised(contents_of(lookup(2, (), 0), frame(0, 0), wrong), "BadValues", "c", 0)
        self.check_raised(contents_of(lookup(1, (), 0), lookup(2, (), 0), frame(0, 0)), "BadValues", "b", None)
        # As soon as a can be computed it comes before c.
        self.check_raised(contents_of(offset(1, 2147483647, 0), frame(0, 0), wrong), "BadValues", "a", 0)

    def test_the_entries_of_a_lookup(self):
        for entries in ((), (1,), (1, 2, 3)):
            self.check_raised(contents_of(frame(0, 4, 5, 4), lookup(0, entries, 0, 0, 0)), "BadValues", "b", None)
        self.assertEqual(computed(contents_of(frame(0, 4, 5, 4), lookup(0, (10, 20), 0, 0, 0)))[1][2], (10, 20, 10))

    def test_bad_files_come_first(self):
        circular = written(contents_of(offset(0, 0, 0)))
        for call in (read_file, listed):
            with self.assertRaises(BadFile) as caught:
                call((*circular, 0))
            self.assertEqual((caught.exception.place, caught.exception.reason), (len(circular), "more"))
            with self.assertRaises(BadFile):
                call(())

    def test_against_slow_tables(self):
        source = random.Random(125)
        outcomes = []
        for _ in range(400):
            contents = random_contents(source)
            expected = slow_table(contents)
            self.assertEqual(result_of(computed, contents), expected, contents)
            found = result_of(read_file, written(contents))
            if expected[0] in ("BadValues", "CircularReferences"):
                self.assertEqual(found, expected)
            else:
                self.assertEqual(found[0], expected)
            outcomes.append(expected[0] if isinstance(expected[0], str) else "table")
        self.assertEqual(sorted(set(outcomes)), ["BadValues", "CircularReferences", "table"])

    def test_spoilt_files_of_tables(self):
        source = random.Random(126)
        for _ in range(200):
            table = random_table(source)
            numbers = list(encode(table, random_plan(source, table)))
            place = source.randrange(len(numbers))
            numbers[place] = source.choice((0, 1, 2, 255, numbers[place] ^ 1, numbers[place] ^ 128))
            contents = slow_contents(tuple(numbers))
            if isinstance(contents[1], tuple):
                expected = slow_table(contents)
                found = result_of(read_file, tuple(numbers))
                self.assertEqual(found[0] if isinstance(expected[0], tuple) else found, expected)


class ReadTests(unittest.TestCase):

    def test_what_a_plan_encodes_is_read(self):
        source = random.Random(80)
        for _ in range(150):
            table = random_table(source, 6)
            plan = random_plan(source, table)
            self.assertEqual(read_file(encode(table, plan)), (table, plan))

    def test_widths_of_0_and_32(self):
        table = (("a", None, (5, 5, -7)), ("b", ("x", "y"), (0, 1, 1)))
        for plan in ((("frame", None, 0), ("lookup", "a", 32)), (("step", None, 32), ("dictionary", None, 0)),
                     (("offset", "b", 32), ("step", None, 0)), (("dictionary", None, 32), ("frame", None, 32))):
            self.assertEqual(read_file(encode(table, plan)), (table, plan))


class ListedTests(unittest.TestCase):

    def test_example(self):
        self.assertEqual(listed(SMALL), (("a", "frame", None, 1, 1, 0, 8, 12),))

    def test_orders(self):
        plan = (("lookup", "city", 2), ("frame", None, 1), ("frame", None, 3), ("offset", "ordered", 1))
        self.assertEqual(listed(encode(ORDERS, plan)), (
            ("zip", "lookup", "city", 2, 2, 0, 48, 17), ("city", "frame", None, 1, 1, 0, 65, 12),
            ("ordered", "frame", None, 3, 1, 0, 77, 14), ("shipped", "offset", "ordered", 1, 1, 0, 91, 12)))

    def test_patches_and_entries_that_are_not_necessary(self):
        contents = (3, (("a", None, ("dictionary", None, 9), ((1, 1, 5), ((0, 1), (2, 1)), (3, 0, 500))),
                        ("b", None, ("offset", 0, 0), ((0,), (), (0, 0, 0)))))
        self.assertEqual(listed(written(contents)), (("a", "dictionary", None, 9, 3, 2, 11, 35),
                                                     ("b", "offset", "a", 0, 1, 0, 46, 11)))

    def test_sizes_and_places(self):
        source = random.Random(43)
        for _ in range(60):
            table = random_table(source, 6)
            plan = random_plan(source, table)
            numbers = encode(table, plan)
            rows = listed(numbers)
            self.assertEqual(tuple(row[7] for row in rows), plan_sizes(table, plan))
            self.assertEqual(tuple(row[1:4] for row in rows), plan)
            self.assertEqual([row[0] for row in rows], [column[0] for column in table])
            place = header_size(table)
            for row in rows:
                self.assertEqual(row[6], place)
                place += row[7]
            self.assertEqual(place, len(numbers))

    def test_trips(self):
        plan = (("frame", None, 4), ("frame", None, 5), ("offset", "start", 0))
        self.assertEqual([row[7] for row in listed(encode(TRIPS, plan))], [13, 14, 11])


if __name__ == "__main__":
    unittest.main()
