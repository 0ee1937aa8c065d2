"""[195], [196]: the columns that a change touches, and revised files."""

import random
import unittest

from slow_files import KINDS, ORDERS, SMALL, TRIPS, random_file, random_plan, random_table
from test_changes import random_change, random_changes

from refpack.changes import changed
from refpack.errors import (
    BadFile, BadValues, CircularReferences, NoRow, TooManyRows, UnknownColumn, WrongCell,
)
from refpack.plans import plan_sections
from refpack.reading import listed, read_file
from refpack.revising import revised, touched
from refpack.writing import encode, written

PLAN = (("lookup", "city", 2), ("frame", None, 1), ("frame", None, 3), ("offset", "ordered", 1))
ROW = (10115, "Berlin", 20100, 20101)
NAMES = ("zip", "city", "ordered", "shipped")
FULL = (("a", None, (5,) * 24),)


class TouchedTests(unittest.TestCase):

    def test_example(self):
        self.assertEqual(touched(ORDERS, PLAN, ("set", 4, "city", "Berlin")), ("zip", "city"))

    def test_a_set_touches_its_column_and_those_that_refer_to_it(self):
        self.assertEqual(touched(ORDERS, PLAN, ("set", 0, "zip", 5)), ("zip",))
        self.assertEqual(touched(ORDERS, PLAN, ("set", 0, "ordered", 5)), ("ordered", "shipped"))
        self.assertEqual(touched(ORDERS, PLAN, ("set", 0, "shipped", 5)), ("shipped",))
        star = (("offset", "end", 1), ("lookup", "end", 1), ("frame", None, 5))
        self.assertEqual(touched(TRIPS, star, ("set", 1, "end", 5)), ("planned", "start", "end"))
        self.assertEqual(touched(TRIPS, star, ("set", 1, "start", 5)), ("start",))

    def test_the_chain_does_not_count(self):
        chain = (("frame", None, 1), ("offset", "planned", 1), ("offset", "start", 1))
        self.assertEqual(touched(TRIPS, chain, ("set", 1, "planned", 5)), ("planned", "start"))

    def test_a_set_of_the_same_cell(self):
        self.assertEqual(touched(ORDERS, PLAN, ("set", 0, "city", "Berlin")), ("zip", "city"))

    def test_other_changes_touch_all_columns(self):
        for change in (("append", ROW), ("insert", 0, ROW), ("insert", 6, ROW), ("remove", 5)):
            self.assertEqual(touched(ORDERS, PLAN, change), NAMES)
        self.assertEqual(touched((("a", None, (5,)),), (("frame", None, 0),), ("remove", 0)), ("a",))

    def test_other_sections_stay(self):
        source = random.Random(195)
        for _ in range(150):
            table = random_table(source)
            plan = random_plan(source, table)
            change = random_change(source, table)
            names = touched(table, plan, change)
            self.assertEqual(names, tuple(column[0] for column in table if column[0] in names))
            before = plan_sections(table, plan)
            after = plan_sections(changed(table, (change,)), plan)
            for column, old, new in zip(table, before, after):
                if column[0] not in names:
                    self.assertEqual(old, new)

    def test_wrong_changes(self):
        for change, error in ((("set", 6, "x", 5), NoRow), (("set", 0, "x", 5), UnknownColumn),
                              (("set", 0, "city", "Bonn"), WrongCell), (("remove", -1), NoRow),
                              (("insert", 7, ROW), NoRow), (("append", (*ROW[:3], "x")), WrongCell)):
            with self.assertRaises(error):
                touched(ORDERS, PLAN, change)
        with self.assertRaises(TooManyRows):
            touched(FULL, (("frame", None, 0),), ("append", (5,)))

    def test_the_plan_comes_first(self):
        unknown = (("lookup", "City", 2), *PLAN[1:])
        circular = (("lookup", "zip", 2), *PLAN[1:])
        for change in (("set", 9, "x", 5), ("remove", 9), ("set", 0, "zip", 5)):
            with self.assertRaises(UnknownColumn) as caught:
                touched(ORDERS, unknown, change)
            self.assertEqual(caught.exception.name, "City")
            with self.assertRaises(CircularReferences):
                touched(ORDERS, circular, change)


class RevisedTests(unittest.TestCase):

    def test_example(self):
        self.assertEqual(revised(SMALL, (("set", 0, "a", 9),)), (
            82, 80, 0, 2, 1, 1, 97, 0, 0, 0, 1, 0, 1, 0, 0, 0, 6, 0, 1, 0, 0, 0, 0, 0, 9, 0))

    def test_by_no_changes(self):
        self.assertEqual(revised(SMALL, ()), SMALL)
        # Patches where none are needed, and entries that no code refers to: only kind and width stay.
        contents = (2, (("a", None, ("frame", None, 9), ((3,), ((0, 5),), (500, 3))),
                        ("b", None, ("dictionary", None, 4), ((1, 2, 2, 9), ((1, 2),), (0, 15)))))
        numbers = written(contents)
        found = revised(numbers, ())
        self.assertEqual(found, encode((("a", None, (5, 6)), ("b", None, (1, 2))),
                                       (("frame", None, 9), ("dictionary", None, 4))))
        self.assertEqual([row[1:6] for row in listed(found)],
                         [("frame", None, 9, 1, 0), ("dictionary", None, 4, 2, 0)])
        self.assertLess(len(found), len(numbers))

    def test_any_files_by_any_changes(self):
        source = random.Random(196)
        for _ in range(100):
            table = random_table(source)
            numbers = random_file(source, table)
            plan = read_file(numbers)[1]
            changes = source.choice(((), random_changes(source, table)))
            found = revised(numbers, changes)
            self.assertEqual(found, encode(changed(table, changes), plan))
            self.assertEqual(read_file(found), (changed(table, changes), plan))

    def test_all_rows_can_be_removed(self):
        found = revised(SMALL, (("remove", 0), ("remove", 0)))
        self.assertEqual(found, encode((("a", None, ()),), (("frame", None, 1),)))
        self.assertEqual(read_file(revised(found, (("append", (7,)),)))[0], (("a", None, (7,)),))

    def test_each_kind_stays(self):
        table = (("a", None, (1, 2, 3)), ("b", None, (1, 2, 3)))
        for kind in KINDS:
            recipe = (kind, "a" if kind in KINDS[3:] else None, 3)
            numbers = encode(table, (("frame", None, 2), recipe))
            found = revised(numbers, (("set", 1, "b", 700), ("append", (-5, 6))))
            self.assertEqual(read_file(found)[1], (("frame", None, 2), recipe))

    def test_what_is_raised_first(self):
        wrong = (("set", 5, "x", 0),)
        with self.assertRaises(BadFile):
            revised(SMALL[:-1], wrong)
        with self.assertRaises(BadValues):
            revised((*SMALL[:13], 120, *SMALL[14:]), wrong)
        with self.assertRaises(CircularReferences):
            revised(written((0, (("a", None, ("lookup", 0, 0), ((), (), ())),))), wrong)
        with self.assertRaises(NoRow) as caught:
            revised(SMALL, wrong)
        self.assertEqual(caught.exception.row, 5)
        with self.assertRaises(UnknownColumn):
            revised(SMALL, (("set", 0, "a", 9), ("set", 1, "x", "y")))
        with self.assertRaises(WrongCell):
            revised(SMALL, (("append", ("x",)), ("remove", 9)))
        full = encode(FULL, (("frame", None, 0),))
        with self.assertRaises(TooManyRows):
            revised(full, (("append", ("x",)),))


if __name__ == "__main__":
    unittest.main()
