"""[190] to [194]: changes, what they raise, the inverse, the difference, and the limits."""

import random
import unittest

from slow_files import ORDERS, TRIPS, random_plan, random_table, random_values

from refpack.certificates import certify, lower_bound
from refpack.changes import changed, difference, inverse, limits_of
from refpack.errors import NoRow, TooManyRows, UnknownColumn, WrongCell
from refpack.packing import first_least_plan, least_size
from refpack.plans import file_size
from refpack.tables import flaw_of, heads_of, rows_of, table_of

SMALL = (("a", None, (1, 2, 3, 4)), ("b", ("no", "yes"), (0, 1, 0, 1)))
EMPTY = (("a", None, ()), ("b", ("no", "yes"), ()))
FULL = (("a", None, tuple(range(24))), ("b", ("no", "yes"), (0, 1) * 12))
GREATEST = 1000000000


def slow_changed(table, changes):
    """The rows of the table as a list, changed one after the other."""
    names = [column[0] for column in table]
    rows = [list(row) for row in rows_of(table)]
    for change in changes:
        if change[0] == "set":
            rows[change[1]][names.index(change[2])] = change[3]
        elif change[0] == "append":
            rows.append(list(change[1]))
        elif change[0] == "insert":
            rows.insert(change[1], list(change[2]))
        else:
            rows.pop(change[1])
    return table_of(heads_of(table), tuple(map(tuple, rows)))


def random_cells(source, table):
    return tuple(values[0] if labels is None else labels[values[0]]
                 for _, labels, _ in table for values in (random_values(source, labels, 1),))


def random_change(source, table):
    """A change that can be made."""
    rows = len(table[0][2])
    words = ["set", "remove"] * (rows > 0) + ["append", "insert"] * (rows < 24)
    word = source.choice(words)
    if word == "append":
        return word, random_cells(source, table)
    if word == "insert":
        return word, source.randint(0, rows), random_cells(source, table)
    row = source.randrange(rows)
    if word == "remove":
        return word, row
    place = source.randrange(len(table))
    return word, row, table[place][0], random_cells(source, table)[place]


def random_changes(source, table):
    changes = ()
    for _ in range(source.randint(0, 12)):
        change = random_change(source, slow_changed(table, changes))
        changes += (change,)
    return changes


class ChangedTests(unittest.TestCase):

    def test_examples(self):
        self.assertEqual(changed(SMALL, (("append", (5, "no")), ("set", 0, "b", "yes"), ("remove", 1))),
                         (("a", None, (1, 3, 4, 5)), ("b", ("no", "yes"), (1, 0, 1, 0))))

    def test_each_change(self):
        cases = (
            (("set", 0, "a", 9), (9, 2, 3, 4), (0, 1, 0, 1)), (("set", 3, "b", "no"), (1, 2, 3, 4), (0, 1, 0, 0)),
            (("append", (9, "yes")), (1, 2, 3, 4, 9), (0, 1, 0, 1, 1)),
            (("insert", 0, (9, "yes")), (9, 1, 2, 3, 4), (1, 0, 1, 0, 1)),
            (("insert", 2, (9, "yes")), (1, 2, 9, 3, 4), (0, 1, 1, 0, 1)),
            (("insert", 4, (9, "yes")), (1, 2, 3, 4, 9), (0, 1, 0, 1, 1)),
            (("remove", 0), (2, 3, 4), (1, 0, 1)), (("remove", 3), (1, 2, 3), (0, 1, 0)),
        )
        for change, values, labels in cases:
            self.assertEqual(changed(SMALL, (change,)), (("a", None, values), ("b", ("no", "yes"), labels)))

    def test_no_changes(self):
        self.assertEqual(changed(SMALL, ()), SMALL)
        self.assertEqual(changed(EMPTY, ()), EMPTY)

    def test_all_rows_and_none(self):
        self.assertEqual(changed(SMALL, (("remove", 0),) * 4), EMPTY)
        self.assertEqual(changed(EMPTY, (("insert", 0, (7, "no")), ("append", (8, "yes")))),
                         (("a", None, (7, 8)), ("b", ("no", "yes"), (0, 1))))
        row = changed(FULL, (("remove", 5), ("append", (-1, "no"))))
        self.assertEqual(len(row[0][2]), 24)
        self.assertEqual(row[0][2][-1], -1)

    def test_greatest_cells(self):
        self.assertEqual(changed(SMALL, (("set", 1, "a", GREATEST), ("set", 2, "a", -GREATEST)))[0][2],
                         (1, GREATEST, -GREATEST, 4))

    def test_arguments_stay_as_they_are(self):
        source = random.Random(190)
        table = random_table(source, rows=6)
        before = repr(table)
        changed(table, random_changes(source, table))
        self.assertEqual(repr(table), before)

    def test_against_rows_in_a_list(self):
        source = random.Random(191)
        for _ in range(150):
            table = random_table(source)
            changes = random_changes(source, table)
            self.assertEqual(changed(table, changes), slow_changed(table, changes))
            self.assertIsNone(flaw_of(changed(table, changes)))


class RaisingTests(unittest.TestCase):

    def check(self, expected, table, *changes):
        """What changed and inverse raise: the class and the value of its only attribute, or None."""
        for call in (changed, inverse):
            with self.assertRaises(expected[0]) as caught:
                call(table, changes)
            for name, value in expected[1:]:
                self.assertEqual(getattr(caught.exception, name), value)

    def test_example(self):
        self.check((NoRow, ("row", 3)), SMALL, ("remove", 3), ("remove", 3))

    def test_rows(self):
        for row in (-1, 4, 5, 10 ** 29, -10 ** 29):
            self.check((NoRow, ("row", row)), SMALL, ("set", row, "a", 1))
            self.check((NoRow, ("row", row)), SMALL, ("remove", row))
        for row in (-1, 5, 10 ** 29):
            self.check((NoRow, ("row", row)), SMALL, ("insert", row, (1, "no")))
        self.check((NoRow, ("row", 0)), EMPTY, ("set", 0, "a", 1))
        self.check((NoRow, ("row", 0)), EMPTY, ("remove", 0))
        self.check((NoRow, ("row", 1)), EMPTY, ("insert", 1, (1, "no")))

    def test_columns_and_cells(self):
        self.check((UnknownColumn, ("name", "A")), SMALL, ("set", 0, "A", 1))
        for cell in ("1", "", GREATEST + 1, -GREATEST - 1):
            self.check((WrongCell, ("column", "a")), SMALL, ("set", 0, "a", cell))
        for cell in (0, 1, "maybe", "Yes", ""):
            self.check((WrongCell, ("column", "b")), SMALL, ("set", 0, "b", cell))

    def test_the_order_for_set(self):
        self.check((NoRow, ("row", 4)), SMALL, ("set", 4, "x", "no cell"))
        self.check((UnknownColumn, ("name", "x")), SMALL, ("set", 3, "x", "no cell"))

    def test_rows_with_wrong_cells(self):
        for cells, column in (((1, 1), "b"), (("no", "no"), "a"), (("no", 1), "a"), ((GREATEST + 1, "no"), "a")):
            self.check((WrongCell, ("column", column)), SMALL, ("append", cells))
            self.check((WrongCell, ("column", column)), SMALL, ("insert", 4, cells))

    def test_full_tables(self):
        self.check((TooManyRows,), FULL, ("append", (1, "no")))
        self.check((TooManyRows,), FULL, ("append", ("no", 1)))
        self.check((TooManyRows,), FULL, ("insert", 24, ("no", 1)))
        self.check((TooManyRows,), FULL, ("insert", 0, (1, "no")))
        self.check((NoRow, ("row", 25)), FULL, ("insert", 25, (1, "no")))
        self.check((TooManyRows,), FULL, ("remove", 3), ("append", (1, "no")), ("append", (1, "no")))

    def test_the_first_change_that_cannot_be_made(self):
        self.check((NoRow, ("row", 3)), SMALL, ("remove", 0), ("set", 3, "x", 1), ("set", 9, "a", 1))
        self.check((UnknownColumn, ("name", "x")), SMALL, ("append", (1, "no")), ("set", 4, "x", 1), ("remove", 9))
        self.check((WrongCell, ("column", "b")), SMALL, ("append", (1, "no")), ("append", (1, "on")), ("remove", 9))


class InverseTests(unittest.TestCase):

    def test_examples(self):
        self.assertEqual(inverse(SMALL, (("append", (5, "no")), ("set", 0, "b", "yes"), ("remove", 1))),
                         (("insert", 1, (2, "yes")), ("set", 0, "b", "no"), ("remove", 4)))

    def test_each_change(self):
        cases = (
            ((), ()), ((("set", 2, "a", 9),), (("set", 2, "a", 3),)), ((("set", 2, "a", 3),), (("set", 2, "a", 3),)),
            ((("insert", 2, (9, "no")),), (("remove", 2),)), ((("insert", 4, (9, "no")),), (("remove", 4),)),
            ((("remove", 3),), (("insert", 3, (4, "yes")),)), ((("append", (1, "no")),), (("remove", 4),)),
            ((("set", 0, "a", 8), ("set", 0, "a", 9)), (("set", 0, "a", 8), ("set", 0, "a", 1))),
        )
        for changes, expected in cases:
            self.assertEqual(inverse(SMALL, changes), expected)

    def test_it_leads_back(self):
        source = random.Random(192)
        for _ in range(150):
            table = random_table(source)
            changes = random_changes(source, table)
            back = inverse(table, changes)
            self.assertEqual(len(back), len(changes))
            self.assertEqual(changed(changed(table, changes), back), table)


class DifferenceTests(unittest.TestCase):

    def test_examples(self):
        self.assertEqual(difference(SMALL, (("a", None, (1, 7)), ("b", ("no", "yes"), (0, 1)))),
                         (("set", 1, "a", 7), ("remove", 3), ("remove", 2)))

    def test_order(self):
        other = (("a", None, (9, 2, 8)), ("b", ("no", "yes"), (1, 1, 1)))
        self.assertEqual(difference(SMALL, other), (
            ("set", 0, "a", 9), ("set", 0, "b", "yes"), ("set", 2, "a", 8), ("set", 2, "b", "yes"), ("remove", 3)))
        self.assertEqual(difference(other, SMALL), (
            ("set", 0, "a", 1), ("set", 0, "b", "no"), ("set", 2, "a", 3), ("set", 2, "b", "no"), ("append", (4, "yes"))))

    def test_edges(self):
        self.assertEqual(difference(SMALL, SMALL), ())
        self.assertEqual(difference(EMPTY, EMPTY), ())
        self.assertEqual(difference(SMALL, EMPTY), (("remove", 3), ("remove", 2), ("remove", 1), ("remove", 0)))
        self.assertEqual(difference(EMPTY, SMALL), (
            ("append", (1, "no")), ("append", (2, "yes")), ("append", (3, "no")), ("append", (4, "yes"))))

    def test_it_leads_there(self):
        source = random.Random(193)
        for _ in range(150):
            table = random_table(source)
            other = changed(table, random_changes(source, table))
            changes = difference(table, other)
            self.assertEqual(changed(table, changes), other)
            self.assertEqual(changes == (), table == other)
            rows = (len(table[0][2]), len(other[0][2]))
            common = min(rows)
            different = sum(first != second for one, two in zip(table, other)
                            for first, second in zip(one[2][:common], two[2][:common]))
            self.assertEqual(len(changes), different + max(rows) - common)


class LimitTests(unittest.TestCase):

    def test_each_row_of_the_table(self):
        self.assertEqual(limits_of("insert", 2), (12, 32))
        for columns in range(1, 7):
            self.assertEqual(limits_of("set", columns), (6 * columns + 6, 6 * columns + 6))
            self.assertEqual(limits_of("append", columns), (0, 10 * columns))
            self.assertEqual(limits_of("insert", columns), (6 * columns, 16 * columns))
            self.assertEqual(limits_of("remove", columns), (16 * columns, 6 * columns))

    def check_limits(self, source, table):
        change = random_change(source, table)
        other = changed(table, (change,))
        fall, rise = limits_of(change[0], len(table))
        plan = random_plan(source, table)
        certificate = certify(random_table_like(source, table))
        for measure in (least_size, lambda some: file_size(some, plan), lambda some: lower_bound(some, certificate)):
            moved = measure(other) - measure(table)
            self.assertLessEqual(-moved, fall)
            self.assertLessEqual(moved, rise)

    def test_sizes_and_bounds_stay_within_the_limits(self):
        source = random.Random(194)
        for _ in range(100):
            self.check_limits(source, random_table(source))

    def test_orders(self):
        store = changed(ORDERS, (("set", 4, "shipped", 20120),))
        plan = first_least_plan(ORDERS)
        self.assertEqual(file_size(store, plan), 109)
        self.assertEqual(lower_bound(store, certify(ORDERS)), 103)
        self.assertEqual(least_size(store), 106)
        self.assertEqual(heads_of(changed(TRIPS, (("remove", 0),))), heads_of(TRIPS))


def random_table_like(source, table):
    """Another table with the same heads."""
    rows = source.choice((1, 6, 24))
    return tuple((name, labels, random_values(source, labels, rows)) for name, labels, _ in table)


if __name__ == "__main__":
    unittest.main()
