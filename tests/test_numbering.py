"""[135]: how many least plans there are, the plan with a number, and the number of a plan."""

import random
import unittest

from slow_files import ORDERS, TRIPS, random_plan, random_table
from slow_plans import SlowPlans

from refpack.errors import CircularReferences, UnknownColumn
from refpack.numbering import count_least_plans, least_plan_at, least_plan_number
from refpack.packing import first_least_plan, is_least_plan
from refpack.plans import plan_order

EMPTY = (("a", None, ()), ("b", None, ()))
# Seven to the fifth least choices: a column without rows costs the same with any reference, and without one.
WIDE = tuple((name, None, ()) for name in "abcdef")
WIDE_PLANS = 7 ** 5 * 33 ** 6
# Several least choices, and several tied recipes with most references.
TIES = (("a", None, (5, 6)), ("b", None, (5, 6)), ("c", None, (1, 2)))


class CountTests(unittest.TestCase):

    def test_examples(self):
        self.assertEqual(count_least_plans(ORDERS), 8)
        self.assertEqual(count_least_plans(EMPTY), 3267)

    def test_one_column(self):
        self.assertEqual(count_least_plans((("a", None, (5, 6)),)), 6)
        self.assertEqual(count_least_plans((("a", None, ()),)), 33)

    def test_very_many(self):
        self.assertEqual(count_least_plans(WIDE), WIDE_PLANS)

    def test_against_all_plans(self):
        source = random.Random(135)
        for _ in range(25):
            table = random_table(source, 3, rows=source.choice((1, 2, 6, 12)))
            self.assertEqual(count_least_plans(table), len(SlowPlans(table).every_least()))


class PlanAtTests(unittest.TestCase):

    def test_examples(self):
        self.assertEqual(least_plan_at(TRIPS, 1),
                         (("frame", None, 4), ("offset", "end", 0), ("offset", "planned", 2)))
        self.assertEqual(least_plan_at(EMPTY, 33), (("dictionary", None, 0), ("lookup", "a", 0)))

    def test_the_first_one(self):
        for table in (ORDERS, TRIPS, EMPTY, WIDE, TIES):
            self.assertEqual(least_plan_at(table, 0), first_least_plan(table))

    def test_the_last_one_and_beyond(self):
        for table in (ORDERS, TRIPS, EMPTY, WIDE, TIES):
            many = count_least_plans(table)
            self.assertIsNotNone(least_plan_at(table, many - 1))
            self.assertIsNone(least_plan_at(table, many))
            self.assertIsNone(least_plan_at(table, many + 1))
            self.assertIsNone(least_plan_at(table, 10 ** 30 - 1))
        self.assertEqual(least_plan_at(EMPTY, 3266), (("lookup", "b", 32), ("dictionary", None, 32)))
        self.assertEqual(least_plan_at(WIDE, WIDE_PLANS - 1),
                         (("lookup", "f", 32),) * 5 + (("dictionary", None, 32),))

    def test_one_column(self):
        table = (("a", None, (5, 6)),)
        self.assertEqual([least_plan_at(table, number) for number in range(7)], [
            (("frame", None, 1),), (("frame", None, 2),), (("frame", None, 3),), (("frame", None, 4),),
            (("step", None, 3),), (("step", None, 4),), None])

    def test_all_of_them_in_order(self):
        source = random.Random(82)
        for _ in range(25):
            table = random_table(source, 3, rows=source.choice((1, 2, 6, 12)))
            plans = SlowPlans(table).every_least()
            numbers = range(len(plans)) if len(plans) < 60 else source.sample(range(len(plans)), 40)
            for number in numbers:
                self.assertEqual(least_plan_at(table, number), plans[number])
                self.assertEqual(least_plan_number(table, plans[number]), number)
            self.assertIsNone(least_plan_at(table, len(plans)))

    def test_ties_between_references(self):
        plans = SlowPlans(TIES).every_least()
        self.assertEqual([least_plan_at(TIES, number) for number in range(len(plans))], plans)
        self.assertGreater(len({tuple(recipe[1] for recipe in plan) for plan in plans}), 2)


class NumberTests(unittest.TestCase):

    def test_examples(self):
        self.assertIsNone(least_plan_number(TRIPS, (("frame", None, 4), ("frame", None, 5), ("offset", "start", 0))))
        self.assertEqual(least_plan_number(EMPTY, (("dictionary", None, 0), ("lookup", "a", 0))), 33)
        self.assertEqual(least_plan_number(EMPTY, (("lookup", "b", 32), ("dictionary", None, 32))), 3266)

    def test_there_and_back(self):
        source = random.Random(135)
        for number in (0, 1, 33 ** 6, WIDE_PLANS - 1, *(source.randrange(WIDE_PLANS) for _ in range(5))):
            plan = least_plan_at(WIDE, number)
            self.assertIs(is_least_plan(WIDE, plan), True)
            self.assertEqual(least_plan_number(WIDE, plan), number)

    def test_later_numbers_are_later_plans(self):
        source = random.Random(136)
        for table in (EMPTY, TIES, WIDE[:3]):
            many = count_least_plans(table)
            for _ in range(20):
                first, second = sorted(source.sample(range(many), 2))
                self.assertEqual(plan_order(table, least_plan_at(table, first), least_plan_at(table, second)), -1)

    def test_plans_that_are_not_least(self):
        self.assertIsNone(least_plan_number(EMPTY, (("frame", None, 0), ("dictionary", None, 0))))
        self.assertIsNone(least_plan_number(EMPTY, (("dictionary", None, 0), ("offset", "a", 0))))
        self.assertIsNone(least_plan_number((("a", None, (5, 6)),), (("frame", None, 5),)))
        source = random.Random(80)
        for _ in range(40):
            table = random_table(source, 3)
            plan = random_plan(source, table)
            self.assertEqual(least_plan_number(table, plan) is None, not is_least_plan(table, plan))

    def test_wrong_plans(self):
        with self.assertRaises(UnknownColumn) as caught:
            least_plan_number(TRIPS, (("offset", "planned", 1), ("lookup", "ends", 1), ("offset", "x", 1)))
        self.assertEqual(caught.exception.name, "ends")
        for plan in ((("offset", "planned", 1), ("frame", None, 5), ("frame", None, 5)),
                     (("offset", "end", 1), ("frame", None, 5), ("offset", "planned", 5))):
            with self.assertRaises(CircularReferences):
                least_plan_number(TRIPS, plan)


if __name__ == "__main__":
    unittest.main()
