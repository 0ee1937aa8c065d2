"""[101] and [102]: arcs, tight arcs, source components, and what is subtracted from remaining costs."""

import random
import unittest

from slow_costs import CIRCULAR, COSTS, all_source_components, arcs_of, random_case, subsets

from refpack.components import entering_cost, lowered, source_components
from refpack.errors import CircularReferences

REMAINING = ((1, 0, 0), (1, 3, 0), (1, 0, 3))


class SourceComponentTests(unittest.TestCase):

    def test_examples(self):
        self.assertEqual(source_components(REMAINING), ((1, 2),))
        self.assertEqual(source_components(COSTS), ((0,), (1,), (2,)))
        # The steps of the document.
        self.assertEqual(source_components(((1, 0, 0), (12, 14, 11), (12, 11, 14))), ((1,), (2,)))
        self.assertEqual(source_components(((1, 0, 0), (1, 3, 0), (12, 11, 14))), ((2,),))
        self.assertEqual(source_components(((1, 0, 0), (0, 2, 0), (0, 0, 2))), ((0, 1, 2),))
        self.assertEqual(source_components(((0, 0, 0), (0, 1, 0), (0, 0, 1))), ())

    def test_one_column(self):
        self.assertEqual(source_components(((0,),)), ())
        self.assertEqual(source_components(((1,),)), ((0,),))
        self.assertEqual(source_components(((1,),), fixed=((0, None),)), ((0,),))

    def test_several_components_in_the_order_of_their_first_columns(self):
        # 0 and 3 reach one another, 1 and 2 do, and 4 is reached from both.
        costs = ((5, 9, 9, 0, 9), (9, 5, 0, 9, 9), (9, 0, 5, 9, 9), (0, 9, 9, 5, 9), (0, 0, 9, 9, 5))
        self.assertEqual(source_components(costs), ((0, 3), (1, 2)))
        self.assertEqual(source_components(((3,) * 6,) * 6), tuple((column,) for column in range(6)))
        self.assertEqual(source_components(((0,) * 6,) * 6), ())

    def test_a_circle_that_is_entered_is_none(self):
        self.assertEqual(source_components(((5, 0, 9), (0, 5, 0), (9, 9, 5))), ((2,),))
        self.assertEqual(source_components(((5, 0, 9), (0, 0, 9), (9, 9, 5))), ((2,),))

    def test_fixed_references_take_arcs_away(self):
        self.assertEqual(source_components(((0, 0), (0, 0)), fixed=((0, 1),)), ())
        self.assertEqual(source_components(((0, 1), (0, 1))), ())
        self.assertEqual(source_components(((0, 1), (0, 1)), fixed=((0, 1),)), ((0,),))
        self.assertEqual(source_components(((0, 0), (5, 1)), fixed=((0, 1),)), ((1,),))
        self.assertEqual(source_components(((1, 0), (0, 1)), fixed=((0, None),)), ((0,),))
        self.assertEqual(source_components(REMAINING, fixed=((1, None),)), ((1,),))

    def test_against_all_sets(self):
        source = random.Random(102)
        for _ in range(400):
            costs, fixed = random_case(source)
            self.assertEqual(source_components(costs, fixed=fixed), all_source_components(costs, fixed), (costs, fixed))


class EnteringTests(unittest.TestCase):

    def test_examples(self):
        self.assertEqual(entering_cost(REMAINING, (1, 2)), 1)
        self.assertEqual(lowered(REMAINING, (1, 2), 1), ((1, 0, 0), (0, 2, 0), (0, 0, 2)))
        self.assertEqual(entering_cost(COSTS, (0,)), 12)
        self.assertEqual(entering_cost(COSTS, (1,)), 11)
        self.assertEqual(entering_cost(COSTS, (2, 0, 1)), 13)

    def test_members_in_any_order(self):
        source = random.Random(11)
        for _ in range(60):
            costs, fixed = random_case(source)
            for members in subsets(len(costs)):
                mixed = tuple(source.sample(members, len(members)))
                least = entering_cost(costs, members, fixed=fixed)
                self.assertEqual(entering_cost(costs, mixed, fixed=fixed), least)
                self.assertEqual(lowered(costs, mixed, least, fixed=fixed),
                                 lowered(costs, members, least, fixed=fixed))

    def test_one_column(self):
        self.assertEqual(entering_cost(((7,),), (0,)), 7)
        self.assertEqual(lowered(((7,),), (0,), 7), ((0,),))
        self.assertEqual(lowered(((7,),), (0,), 3), ((4,),))

    def test_the_amounts_at_the_edges(self):
        self.assertEqual(lowered(COSTS, (0, 2), 0), COSTS)
        self.assertEqual(lowered(COSTS, (2, 1), 12), ((13, 12, 12), (0, 2, 11), (0, 11, 2)))
        self.assertEqual(lowered(((0, 0), (0, 0)), (0, 1), 0), ((0, 0), (0, 0)))

    def test_fixed_columns_have_one_arc(self):
        self.assertEqual(entering_cost(COSTS, (0, 1), fixed=((0, 1),)), 11)
        self.assertEqual(entering_cost(COSTS, (0, 1), fixed=((0, 1), (1, None))), 14)
        self.assertEqual(entering_cost(COSTS, (0, 1), fixed=((1, 0),)), 12)
        self.assertEqual(lowered(COSTS, (0, 1), 11, fixed=((0, 1),)), ((13, 12, 12), (12, 3, 0), (12, 11, 14)))
        self.assertEqual(lowered(COSTS, (0,), 12, fixed=((0, 1),)), ((13, 0, 12), (12, 14, 11), (12, 11, 14)))
        self.assertEqual(lowered(COSTS, (0,), 13, fixed=((0, None),)), ((0, 12, 12), (12, 14, 11), (12, 11, 14)))

    def test_against_all_arcs(self):
        source = random.Random(101)
        for _ in range(150):
            costs, fixed = random_case(source)
            arcs = arcs_of(costs, fixed)
            for members in subsets(len(costs)):
                entering = {arc: cost for arc, cost in arcs.items() if arc[1] in members and arc[0] not in members}
                least = min(entering.values())
                self.assertEqual(entering_cost(costs, members, fixed=fixed), least)
                amount = source.choice((0, least, source.randint(0, least)))
                expected = [list(row) for row in costs]
                for reference, column in entering:
                    expected[column][column if reference == "start" else reference] -= amount
                self.assertEqual(lowered(costs, members, amount, fixed=fixed), tuple(map(tuple, expected)))


class CircularTests(unittest.TestCase):

    def test_circular_fixed_references(self):
        for fixed in CIRCULAR:
            with self.assertRaises(CircularReferences):
                source_components(COSTS, fixed=fixed)
            with self.assertRaises(CircularReferences):
                entering_cost(COSTS, (0,), fixed=fixed)
            with self.assertRaises(CircularReferences):
                lowered(COSTS, (0,), 0, fixed=fixed)

    def test_circular_references_that_are_not_fixed_are_none(self):
        self.assertEqual(source_components(COSTS, fixed=((0, 1), (1, 2))), ((0,), (1,), (2,)))


if __name__ == "__main__":
    unittest.main()
