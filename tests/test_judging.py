"""[112] and [113]: gaps of choices, and the choices that pairs allow."""

import random
import unittest

from slow_costs import CIRCULAR, COSTS, EVERY, cost_of, counting, random_case, random_fixed, random_pairs

from refpack.duals import dual_of, excess_of, load_of
from refpack.errors import CircularReferences
from refpack.judging import allows, gaps_of
from refpack.least import each_least

CERTIFICATE = (((0,), 12), ((1,), 11), ((2,), 11), ((1, 2), 1), ((0, 1, 2), 1))


class GapTests(unittest.TestCase):

    def test_example(self):
        self.assertEqual(gaps_of(COSTS, (((1, 2), 14),), (None, 0, 1)), ((13, 0, 13), (0,)))
        self.assertEqual(gaps_of(COSTS, (((2, 1), 14),), (None, 0, 1)), ((13, 0, 13), (0,)))

    def test_of_the_certificate(self):
        self.assertEqual(gaps_of(COSTS, CERTIFICATE, (None, 0, 1)), ((0, 0, 0), (0, 0, 0, 0, 0)))
        self.assertEqual(gaps_of(COSTS, CERTIFICATE, (None, None, 1)), ((0, 1, 0), (0, 0, 0, 0, 1)))
        self.assertEqual(gaps_of(COSTS, CERTIFICATE, (None, None, None)), ((0, 1, 1), (0, 0, 0, 1, 2)))

    def test_no_pairs(self):
        self.assertEqual(gaps_of(COSTS, (), (1, None, 1)), ((12, 14, 11), ()))
        self.assertEqual(gaps_of(((7,),), (), (None,)), ((7,), ()))

    def test_excesses_and_equal_sets(self):
        pairs = (((0,), 13), ((1,), 12), ((2,), 11))
        self.assertEqual(gaps_of(COSTS, pairs, (None, 0, 1)), ((1, 1, 0), (0, 0, 0)))
        self.assertEqual(gaps_of(((5,),), (((0,), 4), ((0,), 4)), (None,)), ((0,), (0, 0)))

    def test_pairs_with_an_amount_of_0(self):
        self.assertEqual(gaps_of(COSTS, (((0, 1, 2), 0),), (None, None, None)), ((13, 14, 14), (0,)))

    def test_circular_choices(self):
        for choice in ((0, None, None), (1, 0, None), (1, 2, 0), (None, 2, 1), (None, None, 2), (2, 2, 1)):
            self.assertIsNone(gaps_of(COSTS, CERTIFICATE, choice))
            self.assertIs(allows(COSTS, CERTIFICATE, choice), False)

    def test_choices_that_do_not_have_the_fixed_references(self):
        self.assertIsNone(gaps_of(COSTS, (), (None, 0, 1), fixed=((1, None),)))
        self.assertIsNone(gaps_of(COSTS, (), (None, 0, 1), fixed=((0, None), (1, 2))))
        self.assertIsNone(gaps_of(COSTS, (), (None, 0, 1), fixed=((0, 1),)))
        self.assertIsNone(gaps_of(COSTS, (), (1, 2, 0), fixed=((0, 1),)))
        self.assertIs(allows(COSTS, CERTIFICATE, (None, 0, 1), fixed=((0, 1),)), False)

    def test_fixed_references_count_for_excesses(self):
        pairs = (((0,), 13),)
        self.assertEqual(gaps_of(COSTS, pairs, (None, None, None)), ((1, 14, 14), (0,)))
        self.assertEqual(gaps_of(COSTS, pairs, (None, None, None), fixed=((0, None),)), ((0, 14, 14), (0,)))

    def test_circular_fixed_references(self):
        for fixed in CIRCULAR:
            for choice in ((None, 0, 1), (0, None, None), (1, 0, None), (1, 2, 0)):
                with self.assertRaises(CircularReferences):
                    gaps_of(COSTS, (), choice, fixed=fixed)
                with self.assertRaises(CircularReferences):
                    allows(COSTS, (), choice, fixed=fixed)

    def test_against_every_choice(self):
        source = random.Random(112)
        for _ in range(80):
            costs, fixed = random_case(source)
            if len(costs) > 4:
                continue
            pairs = random_pairs(source, len(costs))
            counted = counting(len(costs), fixed)
            excesses = [excess_of(costs, pairs, column, fixed=fixed) for column in range(len(costs))]
            for choice in EVERY[len(costs)]:
                gaps = gaps_of(costs, pairs, choice, fixed=fixed)
                if choice not in counted:
                    self.assertIsNone(gaps)
                    continue
                column_gaps, pair_gaps = gaps
                for column, reference in enumerate(choice):
                    cost = costs[column][column if reference is None else reference]
                    load = load_of(pairs, column, reference)
                    self.assertEqual(column_gaps[column], cost - load + excesses[column])
                for (members, amount), gap in zip(pairs, pair_gaps):
                    entering = sum(choice[column] not in members for column in members)
                    self.assertEqual(gap, amount * (entering - 1))
                self.assertEqual(len(column_gaps) + len(pair_gaps), len(costs) + len(pairs))
                self.assertGreaterEqual(min((*column_gaps, *pair_gaps)), 0)
                total = sum(amount for _, amount in pairs) - sum(excesses) + sum(column_gaps) + sum(pair_gaps)
                self.assertEqual(cost_of(costs, choice), total)


class AllowTests(unittest.TestCase):

    def test_examples(self):
        self.assertIs(allows(COSTS, (((0,), 13), ((1,), 12), ((2,), 11)), (None, 0, 1)), False)
        self.assertIs(allows(COSTS, CERTIFICATE, (None, 0, 1)), True)
        self.assertIs(allows(COSTS, CERTIFICATE, (None, 2, 0)), True)
        self.assertIs(allows(COSTS, CERTIFICATE, (None, 0, 0)), False)

    def test_a_gap_of_a_pair_alone(self):
        # All columns cost what is loaded on them; only the last set is entered twice.
        costs = ((3, 1), (1, 3))
        pairs = (((0,), 1), ((1,), 1), ((0, 1), 2))
        self.assertEqual(gaps_of(costs, pairs, (None, None)), ((0, 0), (0, 0, 2)))
        self.assertIs(allows(costs, pairs, (None, None)), False)
        self.assertIs(allows(costs, pairs, (None, 0)), True)

    def test_costs_of_0(self):
        self.assertIs(allows(((0, 0), (0, 0)), (), (1, None)), True)
        self.assertIs(allows(((0, 0), (0, 0)), (), (1, 0)), False)
        self.assertIs(allows(((0,),), (((0,), 0),), (None,)), True)

    def test_the_certificate_allows_exactly_the_least_choices(self):
        source = random.Random(113)
        for _ in range(60):
            costs, fixed = random_case(source)
            certificate = dual_of(costs, fixed=fixed)
            least = list(each_least(costs, fixed=fixed))
            found = [choice for choice in EVERY[len(costs)] if allows(costs, certificate, choice, fixed=fixed)]
            self.assertEqual(found, least)

    def test_what_is_allowed_is_least(self):
        source = random.Random(114)
        for _ in range(200):
            many = source.choice((1, 2, 3))
            costs = tuple(tuple(source.choice((0, 0, 1)) for _ in range(many)) for _ in range(many))
            fixed = random_fixed(source, many)
            pairs = random_pairs(source, many)
            for choice in EVERY[many]:
                if allows(costs, pairs, choice, fixed=fixed):
                    self.assertIn(choice, list(each_least(costs, fixed=fixed)))


if __name__ == "__main__":
    unittest.main()
