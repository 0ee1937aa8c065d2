"""[100], [103], [104], [110], [111], [113]: the certificate of costs, loads, excesses and bounds."""

import random
import unittest

from slow_costs import (
    CIRCULAR, COSTS, all_source_components, arcs_of, cost_of, counting, random_case, random_pairs,
)

from refpack.duals import dual_bound, dual_of, excess_of, load_of
from refpack.errors import CircularReferences
from refpack.least import least_total


class CertificateTests(unittest.TestCase):

    def test_examples(self):
        certificate = (((0,), 12), ((1,), 11), ((2,), 11), ((1, 2), 1), ((0, 1, 2), 1))
        self.assertEqual(dual_of(COSTS), certificate)
        self.assertEqual(dual_of(COSTS, fixed=((0, 1),)), (*certificate[:4], ((0, 1, 2), 2)))

    def test_one_column(self):
        self.assertEqual(dual_of(((7,),)), (((0,), 7),))
        self.assertEqual(dual_of(((0,),)), ())
        self.assertEqual(dual_of(((7,),), fixed=((0, None),)), (((0,), 7),))

    def test_costs_of_zero_and_equal_costs(self):
        self.assertEqual(dual_of(((0,) * 6,) * 6), ())
        self.assertEqual(dual_of(((5,) * 6,) * 6), tuple(((column,), 5) for column in range(6)))
        self.assertEqual(dual_of(((9, 0), (0, 9))), (((0, 1), 9),))
        self.assertEqual(dual_of(((0, 4), (4, 9))), (((1,), 4),))

    def test_fixed_columns(self):
        self.assertEqual(dual_of(COSTS, fixed=((0, None), (1, None), (2, None))), (((0,), 13), ((1,), 14), ((2,), 14)))
        self.assertEqual(dual_of(COSTS, fixed=((2, 1), (1, 0))),
                         (((0,), 12), ((1,), 12), ((2,), 11), ((0, 1, 2), 1)))
        self.assertEqual(dual_of(((0, 0), (0, 0)), fixed=((1, 0),)), ())

    def test_the_first_component_is_chosen(self):
        costs = ((5, 9, 9, 0, 9), (9, 5, 0, 9, 9), (9, 0, 5, 9, 9), (0, 9, 9, 5, 9), (0, 0, 9, 9, 5))
        self.assertEqual(dual_of(costs), (((0, 3), 5), ((1, 2), 5)))

    def test_word_by_word(self):
        source = random.Random(103)
        for _ in range(150):
            costs, fixed = random_case(source)
            self.assertEqual(dual_of(costs, fixed=fixed), certificate_of(costs, fixed))

    def test_the_sum_is_the_least_total(self):
        source = random.Random(104)
        for _ in range(150):
            costs, fixed = random_case(source)
            certificate = dual_of(costs, fixed=fixed)
            self.assertEqual(sum(amount for _, amount in certificate), least_total(costs, fixed=fixed))
            self.assertEqual(dual_bound(costs, certificate, fixed=fixed), least_total(costs, fixed=fixed))
            for column in range(len(costs)):
                self.assertEqual(excess_of(costs, certificate, column, fixed=fixed), 0)
        wide = tuple(tuple(source.randint(0, 1000000) for _ in range(6)) for _ in range(6))
        self.assertEqual(sum(amount for _, amount in dual_of(wide)), least_total(wide))


def certificate_of(costs, fixed):
    """The certificate by searching all sets at each step."""
    costs = [list(row) for row in costs]
    pairs = []
    while all_source_components(costs, fixed):
        members = all_source_components(costs, fixed)[0]
        entering = {arc: cost for arc, cost in arcs_of(costs, fixed).items()
                    if arc[1] in members and arc[0] not in members}
        least = min(entering.values())
        for reference, column in entering:
            costs[column][column if reference == "start" else reference] -= least
        pairs.append((members, least))
    return tuple(pairs)


def slow_load(pairs, column, reference):
    total = 0
    for members, amount in pairs:
        if set(members) & {column} and not set(members) & {reference}:
            total += amount
    return total


def slow_excess(costs, pairs, column, fixed):
    overloads = [slow_load(pairs, column, reference) - cost
                 for (reference, place), cost in arcs_of(costs, fixed).items() if place == column]
    return max(0, *overloads)


class LoadTests(unittest.TestCase):

    def test_example(self):
        pairs = (((2, 1), 14),)
        self.assertEqual(load_of(pairs, 1, 2), 0)
        self.assertEqual(load_of(pairs, 1, 0), 14)
        self.assertEqual(load_of(pairs, 1, None), 14)
        self.assertEqual(load_of(pairs, 0, None), 0)
        self.assertEqual(load_of(pairs, 0, 1), 0)

    def test_several_pairs(self):
        pairs = (((0, 1), 3), ((1, 0), 4), ((1,), 10), ((2, 1, 0), 100), ((2,), 1000), ((0, 1), 0))
        self.assertEqual(load_of(pairs, 1, None), 117)
        self.assertEqual(load_of(pairs, 1, 0), 10)
        self.assertEqual(load_of(pairs, 1, 2), 17)
        self.assertEqual(load_of(pairs, 2, 1), 1000)
        self.assertEqual(load_of((), 5, None), 0)
        self.assertEqual(load_of((), 5, 4), 0)


class ExcessTests(unittest.TestCase):

    def test_example(self):
        pairs = (((2, 1), 14),)
        self.assertEqual([excess_of(COSTS, pairs, column) for column in range(3)], [0, 2, 2])

    def test_never_negative(self):
        self.assertEqual(excess_of(COSTS, (), 0), 0)
        self.assertEqual(excess_of(((1000000,),), (((0,), 999999),), 0), 0)
        self.assertEqual(excess_of(((999999,),), (((0,), 1000000),), 0), 1)

    def test_fixed_columns_have_one_reference(self):
        pairs = (((0,), 100), ((0, 1), 1000))
        self.assertEqual(excess_of(COSTS, pairs, 0), 1088)
        self.assertEqual(excess_of(COSTS, pairs, 0, fixed=((0, 1),)), 88)
        self.assertEqual(excess_of(COSTS, pairs, 0, fixed=((0, None),)), 1087)
        self.assertEqual(excess_of(COSTS, pairs, 0, fixed=((2, 0),)), 1088)
        self.assertEqual(excess_of(COSTS, pairs, 1, fixed=((1, 0),)), 0)

    def test_against_all_arcs(self):
        source = random.Random(110)
        for _ in range(200):
            costs, fixed = random_case(source)
            pairs = random_pairs(source, len(costs))
            for column in range(len(costs)):
                self.assertEqual(excess_of(costs, pairs, column, fixed=fixed),
                                 slow_excess(costs, pairs, column, fixed))
                for reference in (None, *range(len(costs))):
                    if reference != column:
                        self.assertEqual(load_of(pairs, column, reference), slow_load(pairs, column, reference))


class BoundTests(unittest.TestCase):

    def test_examples(self):
        self.assertEqual(dual_bound(COSTS, (((2, 1), 14),)), 10)
        self.assertEqual(dual_bound(COSTS, ()), 0)
        self.assertEqual(dual_bound(COSTS, dual_of(COSTS)), 36)

    def test_never_negative(self):
        self.assertEqual(dual_bound(COSTS, (((0, 1, 2), 100),)), 0)
        self.assertEqual(dual_bound(((0,),), (((0,), 1000000),)), 0)
        self.assertEqual(dual_bound(((0, 0), (0, 0)), (((0, 1), 1000000),) * 100), 0)

    def test_the_same_set_in_several_pairs(self):
        self.assertEqual(dual_bound(COSTS, (((0,), 6), ((0,), 6))), 12)
        self.assertEqual(dual_bound(COSTS, (((0,), 6), ((0,), 7))), 12)
        self.assertEqual(dual_bound(COSTS, (((1, 2), 6), ((2, 1), 6))), 12)
        self.assertEqual(dual_bound(COSTS, (((1, 2), 6), ((2, 1), 7))), 11)

    def test_fixed_references(self):
        self.assertEqual(dual_bound(COSTS, (((0, 1), 14),)), 9)
        self.assertEqual(dual_bound(COSTS, (((0, 1), 14),), fixed=((0, 1),)), 11)
        self.assertEqual(dual_bound(COSTS, (((0, 1), 14),), fixed=((0, 1), (1, None))), 14)

    def test_no_choice_has_a_lesser_total(self):
        source = random.Random(111)
        for _ in range(200):
            costs, fixed = random_case(source)
            pairs = random_pairs(source, len(costs))
            bound = dual_bound(costs, pairs, fixed=fixed)
            excesses = [slow_excess(costs, pairs, column, fixed) for column in range(len(costs))]
            self.assertEqual(bound, max(0, sum(amount for _, amount in pairs) - sum(excesses)))
            self.assertLessEqual(bound, min(cost_of(costs, choice) for choice in counting(len(costs), fixed)))

    def test_some_pairs_prove_the_least_total(self):
        # Any order of the pairs, and of the members of each set, has the same bound.
        source = random.Random(112)
        for _ in range(60):
            costs, fixed = random_case(source)
            pairs = [(tuple(source.sample(members, len(members))), amount)
                     for members, amount in dual_of(costs, fixed=fixed)]
            source.shuffle(pairs)
            self.assertEqual(dual_bound(costs, tuple(pairs), fixed=fixed), least_total(costs, fixed=fixed))


class CircularTests(unittest.TestCase):

    def test_circular_fixed_references(self):
        for fixed in CIRCULAR:
            with self.assertRaises(CircularReferences):
                dual_of(COSTS, fixed=fixed)
            with self.assertRaises(CircularReferences):
                excess_of(COSTS, (), 0, fixed=fixed)
            with self.assertRaises(CircularReferences):
                dual_bound(COSTS, (), fixed=fixed)


if __name__ == "__main__":
    unittest.main()
