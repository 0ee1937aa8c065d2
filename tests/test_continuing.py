"""[114], [91], [5]: reduced costs, and pairs that are continued."""

import random
import unittest

from slow_costs import CIRCULAR, COSTS, arcs_of, random_case, random_pairs

from refpack.continuing import continued, reduced_costs
from refpack.duals import dual_bound, dual_of, excess_of, load_of
from refpack.errors import CircularReferences
from refpack.least import least_total

CERTIFICATE = (((0,), 12), ((1,), 11), ((2,), 11), ((1, 2), 1), ((0, 1, 2), 1))


def slow_load(pairs, column, reference):
    load = 0
    for members, amount in pairs:
        if column in members and reference not in members:
            load += amount
    return load


def slow_reduced(costs, pairs, fixed):
    """The reduced costs, arc by arc."""
    found = [list(row) for row in costs]
    arcs = arcs_of(costs, fixed)
    for column in range(len(costs)):
        entering = {reference: cost for (reference, place), cost in arcs.items() if place == column}
        excess = max([0] + [slow_load(pairs, column, reference) - cost for reference, cost in entering.items()])
        for reference, cost in entering.items():
            place = column if reference == "start" else reference
            found[column][place] = cost - slow_load(pairs, column, reference) + excess
    return tuple(tuple(row) for row in found)


class ReducedTests(unittest.TestCase):

    def test_example(self):
        self.assertEqual(reduced_costs(COSTS, (((1, 2), 14),)), ((13, 12, 12), (0, 2, 13), (0, 13, 2)))
        self.assertEqual(reduced_costs(COSTS, (((2, 1), 14),)), ((13, 12, 12), (0, 2, 13), (0, 13, 2)))

    def test_no_pairs(self):
        self.assertEqual(reduced_costs(COSTS, ()), COSTS)
        self.assertEqual(reduced_costs(COSTS, (), fixed=((0, 1), (2, None))), COSTS)
        self.assertEqual(reduced_costs(((5,),), ()), ((5,),))

    def test_one_column(self):
        self.assertEqual(reduced_costs(((5,),), (((0,), 3),)), ((2,),))
        self.assertEqual(reduced_costs(((5,),), (((0,), 3), ((0,), 3))), ((0,),))
        self.assertEqual(reduced_costs(((0,),), (((0,), 1000000),)), ((0,),))

    def test_fixed_references(self):
        # Column 1 has the arc from 2 only: its other elements stay, and only this load counts for its excess.
        self.assertEqual(reduced_costs(COSTS, (((1, 2), 14), ((1,), 12)), fixed=((1, 2),)),
                         ((13, 12, 12), (12, 14, 0), (0, 13, 2)))
        self.assertEqual(reduced_costs(COSTS, (((0, 1), 15),), fixed=((0, None), (1, None), (2, None))),
                         ((0, 12, 12), (12, 0, 11), (12, 11, 14)))

    def test_against_slow_costs(self):
        source = random.Random(114)
        for _ in range(300):
            costs, fixed = random_case(source)
            pairs = random_pairs(source, len(costs))
            found = reduced_costs(costs, pairs, fixed=fixed)
            self.assertEqual(found, slow_reduced(costs, pairs, fixed))
            self.assertGreaterEqual(min(arcs_of(found, fixed).values()), 0)


class ContinuedTests(unittest.TestCase):

    def test_example(self):
        self.assertEqual(continued(COSTS, (((1, 2), 14),)), (((1, 2), 14), ((0,), 12), ((0, 1, 2), 1)))

    def test_no_pairs_give_the_certificate(self):
        self.assertEqual(continued(COSTS, ()), CERTIFICATE)
        source = random.Random(103)
        for _ in range(100):
            costs, fixed = random_case(source)
            self.assertEqual(continued(costs, (), fixed=fixed), dual_of(costs, fixed=fixed))

    def test_the_certificate_is_complete(self):
        self.assertEqual(continued(COSTS, CERTIFICATE), CERTIFICATE)
        source = random.Random(104)
        for _ in range(100):
            costs, fixed = random_case(source)
            certificate = dual_of(costs, fixed=fixed)
            self.assertEqual(continued(costs, certificate, fixed=fixed), certificate)

    def test_the_pairs_stay_as_they_are(self):
        pairs = (((2, 0), 0), ((2, 0), 3), ((1,), 0))
        found = continued(COSTS, pairs)
        self.assertEqual(found[:3], pairs)
        self.assertEqual(found[3:], dual_of(slow_reduced(COSTS, pairs, ())))

    def test_costs_of_0(self):
        self.assertEqual(continued(((0, 0), (0, 0)), ()), ())
        self.assertEqual(continued(((0, 0), (0, 0)), (((1, 0), 7),)), (((1, 0), 7),))

    def test_loads_that_exceed_the_costs_by_far(self):
        pairs = (((0, 1, 2), 1000000), ((1,), 1000000))
        self.assertEqual(continued(COSTS, pairs)[:2], pairs)
        self.assertEqual(dual_bound(COSTS, continued(COSTS, pairs)), 0)

    def test_the_bound_does_not_become_less(self):
        source = random.Random(115)
        risen = []
        for _ in range(300):
            costs, fixed = random_case(source)
            pairs = random_pairs(source, len(costs))
            found = continued(costs, pairs, fixed=fixed)
            self.assertEqual(found, pairs + dual_of(slow_reduced(costs, pairs, fixed), fixed=fixed))
            before = dual_bound(costs, pairs, fixed=fixed)
            after = dual_bound(costs, found, fixed=fixed)
            self.assertLessEqual(before, after)
            self.assertLessEqual(after, least_total(costs, fixed=fixed))
            risen.append(before < after)
            for (reference, column), cost in arcs_of(costs, fixed).items():
                load = load_of(found, column, None if reference == "start" else reference)
                self.assertLessEqual(load - cost, excess_of(costs, pairs, column, fixed=fixed))
        self.assertIn(True, risen)
        self.assertIn(False, risen)


class RaisingTests(unittest.TestCase):

    def test_circular_fixed_references(self):
        for fixed in CIRCULAR:
            for call in (reduced_costs, continued):
                for pairs in ((), CERTIFICATE):
                    with self.assertRaises(CircularReferences):
                        call(COSTS, pairs, fixed=fixed)

    def test_fixed_is_passed_by_its_name(self):
        for call in (reduced_costs, continued):
            with self.assertRaises(TypeError):
                call(COSTS, (), ())


if __name__ == "__main__":
    unittest.main()
