"""[130]: the costs of a table."""

import random
import unittest

from slow_files import KINDS, ORDERS, TRIPS, random_table

from refpack.pricing import costs_of
from refpack.sections import section_of, section_size


def cost_by_trying(values, reference):
    kinds = KINDS[:3] if reference is None else KINDS[3:]
    return min(section_size(width, section_of(kind, width, values, reference))
               for kind in kinds for width in range(33))


class CostTests(unittest.TestCase):

    def test_examples(self):
        self.assertEqual(costs_of(TRIPS), ((13, 12, 12), (12, 14, 11), (12, 11, 14)))
        costs = costs_of(ORDERS)
        self.assertEqual([costs[column][column] for column in range(4)], [21, 12, 14, 14])
        self.assertEqual((costs[0][1], costs[3][2], costs[2][3]), (17, 12, 12))

    def test_one_column(self):
        self.assertEqual(costs_of((("a", None, (5, 6)),)), ((12,),))

    def test_no_rows(self):
        self.assertEqual(costs_of((("a", None, ()),)), ((7,),))
        self.assertEqual(costs_of((("a", None, ()), ("b", ("x",), ()))), ((7, 7), (7, 7)))

    def test_columns_and_references_are_not_confused(self):
        self.assertEqual(costs_of(ORDERS[:2]), ((21, 17), (19, 12)))
        self.assertEqual(costs_of((ORDERS[1], ORDERS[0])), ((12, 19), (17, 21)))

    def test_by_trying_all_recipes(self):
        source = random.Random(130)
        for _ in range(12):
            table = random_table(source)
            expected = tuple(
                tuple(cost_by_trying(values, None if place == other else table[other][2]) for other in range(len(table)))
                for place, (_, _, values) in enumerate(table))
            self.assertEqual(costs_of(table), expected)


if __name__ == "__main__":
    unittest.main()
