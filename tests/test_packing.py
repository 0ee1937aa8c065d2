"""[130] to [133]: least sizes, references that are fixed by names, least plans and the first one."""

import random
import unittest

from slow_files import ORDERS, TRIPS, random_file, random_plan, random_table
from slow_plans import SlowPlans, named_fixed

from refpack.errors import CircularReferences, UnknownColumn
from refpack.packing import first_least_plan, is_least_plan, least_size, pack
from refpack.plans import file_size, plan_order
from refpack.reading import read_file
from refpack.writing import encode, header_of

# The first least choice of this table is (1, None, None), but the first least plan has (2, None, None).
STAIRS = (("a", None, (0, 0, 300, 300)), ("b", None, (0, 0, 1, 1)), ("c", None, (0, 0, 200, 200)))
EMPTY = (("a", None, ()), ("b", None, ()))


class LeastSizeTests(unittest.TestCase):

    def test_examples(self):
        self.assertEqual(least_size(ORDERS), 103)
        self.assertEqual(least_size(TRIPS), 62)
        self.assertEqual(least_size(TRIPS, fixed=(("planned", "start"),)), 63)

    def test_without_references(self):
        alone = tuple((name, None) for name, _, _ in ORDERS)
        self.assertEqual(least_size(ORDERS, fixed=alone), 48 + 61)

    def test_edges(self):
        self.assertEqual(least_size((("a", None, (5, 6)),)), 20)
        self.assertEqual(least_size((("a", None, (5, 6)),), fixed=(("a", None),)), 20)
        self.assertEqual(least_size(EMPTY), 5 + 6 + 14)
        self.assertEqual(least_size(EMPTY, fixed=(("b", "a"),)), 5 + 6 + 14)

    def test_by_trying_all_plans(self):
        source = random.Random(131)
        for _ in range(15):
            table = random_table(source)
            for fixed in ((), named_fixed(source, table)):
                slow = SlowPlans(table, fixed)
                self.assertEqual(least_size(table, fixed=fixed), len(header_of(table)) + slow.least_total())

    def test_no_file_of_the_table_is_smaller(self):
        source = random.Random(126)
        for _ in range(150):
            table = random_table(source)
            numbers = random_file(source, table)
            self.assertEqual(read_file(numbers)[0], table)
            self.assertGreaterEqual(len(numbers), least_size(table))
            fixed = tuple((column[0], recipe[1]) for column, recipe in zip(table, read_file(numbers)[1]))
            self.assertGreaterEqual(len(numbers), least_size(table, fixed=fixed))


class FirstLeastPlanTests(unittest.TestCase):

    def test_examples(self):
        self.assertEqual(first_least_plan(TRIPS),
                         (("frame", None, 4), ("offset", "planned", 2), ("offset", "start", 0)))
        self.assertEqual(first_least_plan(EMPTY), (("dictionary", None, 0), ("dictionary", None, 0)))
        self.assertEqual(first_least_plan(ORDERS), (
            ("lookup", "city", 2), ("frame", None, 1), ("frame", None, 3), ("offset", "ordered", 1)))

    def test_the_kind_is_compared_before_the_reference(self):
        self.assertEqual(first_least_plan(STAIRS)[0], ("offset", "c", 7))
        self.assertEqual([recipe[1] for recipe in first_least_plan(STAIRS)], ["c", None, None])
        self.assertEqual(first_least_plan(STAIRS, fixed=(("a", "b"),))[0], ("lookup", "b", 0))

    def test_one_column(self):
        self.assertEqual(first_least_plan((("a", None, (5, 6)),)), (("frame", None, 1),))
        self.assertEqual(first_least_plan((("a", ("x", "y"), (1, 1)),)), (("frame", None, 0),))

    def test_fixed_references(self):
        self.assertEqual(first_least_plan(TRIPS, fixed=(("planned", "end"),)),
                         (("offset", "end", 2), ("frame", None, 5), ("offset", "start", 0)))
        self.assertEqual(first_least_plan(TRIPS, fixed=(("end", None), ("start", "planned"), ("planned", "end"))),
                         (("offset", "end", 2), ("offset", "planned", 2), ("frame", None, 5)))

    def test_by_trying_all_plans(self):
        source = random.Random(133)
        for _ in range(25):
            table = random_table(source, rows=source.choice((0, 1, 2, 4, 9)))
            for fixed in ((), named_fixed(source, table)):
                slow = SlowPlans(table, fixed)
                plan = first_least_plan(table, fixed=fixed)
                self.assertEqual(plan, slow.first())
                self.assertEqual(file_size(table, plan), least_size(table, fixed=fixed))
                references = {column[0]: recipe[1] for column, recipe in zip(table, plan)}
                self.assertTrue(all(references[name] == other for name, other in fixed))


class IsLeastPlanTests(unittest.TestCase):

    def test_examples(self):
        self.assertIs(is_least_plan(TRIPS, (("frame", None, 4), ("offset", "end", 0), ("offset", "planned", 2))), True)
        self.assertIs(is_least_plan(TRIPS, (("frame", None, 4), ("frame", None, 5), ("offset", "start", 0))), False)
        self.assertIs(is_least_plan(EMPTY, (("lookup", "b", 32), ("dictionary", None, 17))), True)
        self.assertIs(is_least_plan(EMPTY, (("lookup", "b", 32), ("frame", None, 0))), False)

    def test_tied_recipes_count(self):
        table = (("a", None, (5, 6)),)
        for recipe in (("frame", None, 1), ("frame", None, 4), ("step", None, 3), ("step", None, 4)):
            self.assertIs(is_least_plan(table, (recipe,)), True)
        for recipe in (("frame", None, 0), ("frame", None, 5), ("step", None, 2), ("dictionary", None, 1)):
            self.assertIs(is_least_plan(table, (recipe,)), False)

    def test_wrong_plans(self):
        with self.assertRaises(UnknownColumn) as caught:
            is_least_plan(TRIPS, (("offset", "planned", 1), ("lookup", "ends", 1), ("offset", "x", 1)))
        self.assertEqual(caught.exception.name, "ends")
        with self.assertRaises(CircularReferences):
            is_least_plan(TRIPS, (("offset", "planned", 1), ("frame", None, 5), ("frame", None, 5)))

    def test_by_trying(self):
        source = random.Random(134)
        for _ in range(40):
            table = random_table(source, 3)
            least = SlowPlans(table).least_total() + len(header_of(table))
            for plan in (random_plan(source, table), random_plan(source, table), first_least_plan(table)):
                self.assertIs(is_least_plan(table, plan), file_size(table, plan) == least)
                if is_least_plan(table, plan):
                    self.assertLessEqual(plan_order(table, first_least_plan(table), plan), 0)


class PackTests(unittest.TestCase):

    def test_examples(self):
        self.assertEqual(len(pack(ORDERS)), 103)
        self.assertEqual(pack(TRIPS)[26:], (
            0, 0, 4, 0, 1, 0, 0, 2, 88, 0, 0, 48, 245, 3, 0, 2, 0, 1, 0, 0, 0, 0, 0, 0, 78, 3, 1, 0, 0, 1, 0, 0, 0, 50,
            0, 0))

    def test_the_file_of_the_first_least_plan(self):
        source = random.Random(135)
        for _ in range(30):
            table = random_table(source, 6)
            plan = first_least_plan(table)
            self.assertEqual(pack(table), encode(table, plan))
            self.assertEqual(read_file(pack(table)), (table, plan))
            self.assertEqual(len(pack(table)), least_size(table))


class FixedTests(unittest.TestCase):

    def check_unknown(self, name, fixed):
        for call in (least_size, first_least_plan):
            with self.assertRaises(UnknownColumn) as caught:
                call(TRIPS, fixed=fixed)
            self.assertEqual(caught.exception.name, name)

    def test_unknown_columns(self):
        self.check_unknown("x", (("x", None),))
        self.check_unknown("x", (("x", "y"),))
        self.check_unknown("y", (("end", "y"), ("x", None)))
        self.check_unknown("x", (("end", None), ("x", None), ("planned", "y")))
        self.check_unknown("Planned", (("end", "Planned"),))
        self.check_unknown("", (("", None),))

    def test_unknown_columns_come_before_circles(self):
        self.check_unknown("x", (("end", "end"), ("x", "x")))
        self.check_unknown("y", (("end", "start"), ("start", "end"), ("planned", "y")))

    def test_circles(self):
        for fixed in ((("end", "end"),), (("end", "start"), ("start", "end")), (("planned", None), ("end", "end")),
                      (("start", "end"), ("end", "planned"), ("planned", "start"))):
            for call in (least_size, first_least_plan):
                with self.assertRaises(CircularReferences):
                    call(TRIPS, fixed=fixed)

    def test_columns_fixed_to_none(self):
        self.assertEqual(least_size(TRIPS, fixed=(("planned", None),)), 62)
        self.assertEqual(least_size(TRIPS, fixed=(("planned", None), ("start", None))), 64)
        self.assertEqual(least_size(TRIPS, fixed=(("end", None), ("planned", None), ("start", None))), 26 + 41)


if __name__ == "__main__":
    unittest.main()
