"""[90] to [94]: total costs, the least total, least choices in their order, fixed references, switches."""

import random
import unittest

from slow_costs import COSTS, EVERY, cost_of, counting

from refpack.errors import CircularReferences
from refpack.least import count_least, each_least, first_least, least_total, switch_of, total_cost


def least_of(costs, choices):
    return min((cost_of(costs, choice) for choice in choices), default=None)


def random_costs(source, many):
    reach = source.choice((1, 2, 6, 1000000))
    return tuple(tuple(source.randint(0, reach) for _ in range(many)) for _ in range(many))


def random_fixed(source, many):
    """Fixed references of some columns, circular or not, in any order."""
    columns = source.sample(range(many), source.choice((0, 0, 1, source.randint(0, many))))
    return tuple((column, source.choice((None, *(other for other in range(many) if other != column))))
                 for column in columns)


class DocumentTests(unittest.TestCase):

    def test_examples(self):
        self.assertEqual(least_total(COSTS), 36)
        self.assertEqual(tuple(each_least(COSTS)), ((None, 0, 1), (None, 2, 0)))
        self.assertEqual(first_least(COSTS), (None, 0, 1))
        self.assertEqual(count_least(COSTS), 2)
        self.assertEqual(least_total(COSTS, fixed=((0, 1),)), 37)
        self.assertEqual(first_least(COSTS, fixed=((0, 1),)), (1, None, 1))
        self.assertEqual(count_least(COSTS, fixed=((0, 1),)), 2)
        self.assertEqual(switch_of(COSTS, 0, 1), (37, 36))
        self.assertEqual(switch_of(COSTS, 0, 1, fixed=((0, 1),)), (37, None))
        self.assertIsNone(total_cost(COSTS, (None, 2, 1)))
        with self.assertRaises(CircularReferences):
            least_total(COSTS, fixed=((1, 2), (2, 1)))


class TotalCostTests(unittest.TestCase):

    def test_total_cost(self):
        self.assertEqual(total_cost(COSTS, (None, None, None)), 41)
        self.assertEqual(total_cost(COSTS, (None, 0, 1)), 36)
        self.assertEqual(total_cost(COSTS, (2, None, 1)), 37)
        self.assertEqual(total_cost(((7,),), (None,)), 7)
        self.assertEqual(total_cost(((0, 0), (0, 0)), (1, None)), 0)

    def test_circular_choices(self):
        for choice in ((0, None, None), (1, 0, None), (1, 2, 0), (None, None, 2), (1, 2, 1)):
            self.assertIsNone(total_cost(COSTS, choice))
        self.assertIsNone(total_cost(((7,),), (0,)))

    def test_rows_and_columns_are_not_confused(self):
        costs = ((1, 10), (100, 1000))
        self.assertEqual(total_cost(costs, (None, 0)), 101)
        self.assertEqual(total_cost(costs, (1, None)), 1010)


class LeastTests(unittest.TestCase):

    def test_one_column(self):
        self.assertEqual(least_total(((5,),)), 5)
        self.assertEqual(tuple(each_least(((0,),))), ((None,),))
        self.assertEqual(first_least(((5,),), fixed=((0, None),)), (None,))
        self.assertEqual(count_least(((5,),)), 1)
        self.assertEqual(switch_of(((5,),), 0, None), (5, None))

    def test_equal_costs_allow_everything(self):
        for many in range(1, 6):
            costs = ((3,) * many,) * many
            self.assertEqual(list(each_least(costs)), EVERY[many])
            self.assertEqual(count_least(costs), (many + 1) ** (many - 1))

    def test_six_columns(self):
        costs = ((0,) * 6,) * 6
        self.assertEqual(count_least(costs), 16807)
        self.assertEqual(first_least(costs), (None,) * 6)
        dear = tuple(tuple(9 if row == column else 1 for row in range(6)) for column in range(6))
        self.assertEqual(least_total(dear), 14)
        self.assertEqual(count_least(dear), 7776)
        self.assertEqual(first_least(dear), (None, 0, 0, 0, 0, 0))
        self.assertEqual(first_least(dear, fixed=((5, None),)), (1, 2, 3, 4, 5, None))
        self.assertEqual(switch_of(dear, 3, None), (14, 14))

    def test_against_all_choices(self):
        source = random.Random(92)
        for _ in range(250):
            many = source.choice((1, 2, 3, 3, 4, 4, 5))
            costs = random_costs(source, many)
            fixed = random_fixed(source, many)
            choices = counting(many, fixed)
            if not choices:
                self.check_circular(costs, fixed)
                continue
            least = least_of(costs, choices)
            expected = [choice for choice in choices if cost_of(costs, choice) == least]
            self.assertEqual(least_total(costs, fixed=fixed), least)
            self.assertEqual(list(each_least(costs, fixed=fixed)), expected)
            self.assertEqual(first_least(costs, fixed=fixed), expected[0])
            self.assertEqual(count_least(costs, fixed=fixed), len(expected))

    def test_switches_against_all_choices(self):
        source = random.Random(94)
        for _ in range(150):
            many = source.choice((1, 2, 3, 4))
            costs = random_costs(source, many)
            fixed = random_fixed(source, many)
            choices = counting(many, fixed)
            if not choices:
                continue
            for column in range(many):
                for reference in (None, *(other for other in range(many) if other != column)):
                    having = [choice for choice in choices if choice[column] == reference]
                    lacking = [choice for choice in choices if choice[column] != reference]
                    self.assertEqual(switch_of(costs, column, reference, fixed=fixed),
                                     (least_of(costs, having), least_of(costs, lacking)))

    def check_circular(self, costs, fixed):
        for call in (least_total, first_least, count_least):
            with self.assertRaises(CircularReferences):
                call(costs, fixed=fixed)
        with self.assertRaises(CircularReferences):
            list(each_least(costs, fixed=fixed))
        with self.assertRaises(CircularReferences):
            switch_of(costs, 0, None, fixed=fixed)

    def test_circular_fixed_references(self):
        circular = (
            ((0, 0),), ((2, 2),), ((0, 1), (1, 0)), ((2, 0), (1, 2), (0, 1)), ((0, None), (1, 2), (2, 1)),
            ((0, 1), (1, 1)),
        )
        for fixed in circular:
            self.check_circular(COSTS, fixed)

    def test_fixed_references_that_are_not_circular(self):
        self.assertEqual(tuple(each_least(COSTS, fixed=((2, 1), (1, 0)))), ((None, 0, 1),))
        self.assertEqual(tuple(each_least(COSTS, fixed=((0, None), (1, None), (2, None)))), ((None, None, None),))
        self.assertEqual(least_total(COSTS, fixed=((0, None), (1, None), (2, None))), 41)
        self.assertEqual(least_total(COSTS, fixed=((1, 2),)), 36)

    def test_switches_at_the_edges(self):
        self.assertEqual(switch_of(COSTS, 0, 1, fixed=((0, 2),)), (None, 37))
        self.assertEqual(switch_of(COSTS, 0, None, fixed=((0, 2),)), (None, 37))
        self.assertEqual(switch_of(COSTS, 0, None, fixed=((0, None),)), (36, None))
        # With both other columns fixed to column 0 it can only have no reference.
        self.assertEqual(switch_of(COSTS, 0, None, fixed=((1, 0), (2, 0))), (37, None))
        self.assertEqual(switch_of(COSTS, 0, 2, fixed=((1, 0), (2, 0))), (None, 37))


if __name__ == "__main__":
    unittest.main()
