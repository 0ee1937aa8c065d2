"""[115] to [119], [91], [5]: needs, least needs and serving choices, pairs that meet a set, distances."""

import random
import unittest

from slow_costs import (
    CIRCULAR, COSTS, EVERY, cost_of, counting, is_circular, random_case, random_fixed, random_members, random_pairs,
    subsets,
)

from refpack.duals import dual_bound, dual_of, excess_of
from refpack.errors import CircularReferences
from refpack.least import first_least, least_total
from refpack.needs import (
    distance_pairs, distances_of, least_need, meeting, need_of, needed_members, serving_choice,
)

CERTIFICATE = (((0,), 12), ((1,), 11), ((2,), 11), ((1, 2), 1), ((0, 1, 2), 1))
ZEROS = ((0, 0, 0), (0, 0, 0), (0, 0, 0))


def slow_needed(choice, members):
    """The needed columns, None if a chain does not end."""
    found = set(members)
    for _ in choice:
        found |= {choice[column] for column in found} - {None}
    outside = tuple(choice[column] if column in found else None for column in range(len(choice)))
    return None if is_circular(outside) else tuple(sorted(found))


def slow_need(costs, choice, members):
    only = [(column, choice[column]) for column in slow_needed(choice, members)]
    return sum(costs[column][column if reference is None else reference] for column, reference in only)


class NeedTests(unittest.TestCase):

    def test_examples(self):
        self.assertEqual(needed_members((None, 0, 1), (1,)), (0, 1))
        self.assertEqual(need_of(COSTS, (None, 0, 1), (1,)), 25)

    def test_members_in_any_order(self):
        self.assertEqual(needed_members((2, None, None, 0), (3, 1)), (0, 1, 2, 3))
        self.assertEqual(needed_members((2, None, None, 0), (2, 0)), (0, 2))
        self.assertEqual(need_of(COSTS, (None, 0, 1), (2, 0)), 36)
        self.assertEqual(need_of(COSTS, (None, 0, 1), (0, 2)), 36)

    def test_each_column_counts_once(self):
        self.assertEqual(need_of(COSTS, (None, 0, 0), (1, 2)), 13 + 12 + 12)

    def test_one_column(self):
        self.assertEqual(needed_members((None,), (0,)), (0,))
        self.assertEqual(need_of(((7,),), (None,), (0,)), 7)

    def test_chains_that_do_not_end(self):
        for choice, members in (((0,), (0,)), ((1, 0, None), (0,)), ((1, 0, None), (2, 1)), ((1, 2, 2), (0,)),
                                ((None, 2, 1), (0, 2)), ((1, 1, None), (2, 0))):
            with self.assertRaises(CircularReferences):
                needed_members(choice, members)
            with self.assertRaises(CircularReferences):
                need_of(((1,) * len(choice),) * len(choice), choice, members)

    def test_chains_of_other_columns(self):
        # Columns 1 and 2 are on a circle, but column 0 does not need them.
        self.assertEqual(needed_members((None, 2, 1), (0,)), (0,))
        self.assertEqual(need_of(COSTS, (None, 2, 1), (0,)), 13)
        self.assertEqual(needed_members((3, 1, 1, None), (0,)), (0, 3))

    def test_against_slow_needs(self):
        source = random.Random(115)
        for _ in range(400):
            many = source.randint(1, 6)
            choice = tuple(source.choice((None, *range(many))) for _ in range(many))
            members = random_members(source, many)
            costs = tuple(tuple(source.randint(0, 9) for _ in range(many)) for _ in range(many))
            expected = slow_needed(choice, members)
            if expected is None:
                with self.assertRaises(CircularReferences):
                    needed_members(choice, members)
                with self.assertRaises(CircularReferences):
                    need_of(costs, choice, members)
            else:
                self.assertEqual(needed_members(choice, members), expected)
                self.assertEqual(need_of(costs, choice, members), slow_need(costs, choice, members))

    def test_the_need_of_all_columns_is_the_total_cost(self):
        for choice in EVERY[3]:
            self.assertEqual(need_of(COSTS, choice, (2, 0, 1)), cost_of(COSTS, choice))


class LeastNeedTests(unittest.TestCase):

    def test_examples(self):
        self.assertEqual(least_need(COSTS, (1, 2)), 25)
        self.assertEqual(serving_choice(COSTS, (1, 2)), (1, None, 1))
        self.assertEqual(cost_of(COSTS, (1, None, 1)), 37)

    def test_members_in_any_order(self):
        self.assertEqual(least_need(COSTS, (2, 1)), 25)
        self.assertEqual(serving_choice(COSTS, (2, 1)), (1, None, 1))

    def test_one_column(self):
        self.assertEqual(least_need(((7,),), (0,)), 7)
        self.assertEqual(serving_choice(((7,),), (0,)), (None,))
        self.assertEqual(least_need(((7,),), (0,), fixed=((0, None),)), 7)

    def test_costs_of_0_and_equal_costs(self):
        self.assertEqual(least_need(ZEROS, (2, 0)), 0)
        self.assertEqual(serving_choice(ZEROS, (2, 0)), (None, None, None))
        equal = ((5,) * 6,) * 6
        self.assertEqual(least_need(equal, (3, 1)), 10)
        self.assertEqual(serving_choice(equal, (3, 1)), (None,) * 6)

    def test_the_least_total_cost_is_preferred(self):
        # Column 0 needs 5 in any case; column 1 is cheaper with the reference 0, and column 2 with the reference 1.
        costs = ((5, 5, 5), (1, 9, 9), (9, 0, 9))
        self.assertEqual(serving_choice(costs, (0,)), (None, 0, 1))

    def test_the_first_choice_is_preferred(self):
        costs = ((5, 9, 9), (2, 2, 2), (3, 3, 3))
        self.assertEqual(serving_choice(costs, (0,)), (None, None, None))
        self.assertEqual(serving_choice(((4, 0), (0, 4)), (0, 1)), (None, 0))

    def test_fixed_references(self):
        self.assertEqual(least_need(COSTS, (0,), fixed=((0, 1),)), 26)
        self.assertEqual(serving_choice(COSTS, (0,), fixed=((0, 1),)), (1, None, 1))
        self.assertEqual(least_need(COSTS, (1, 2), fixed=((2, None),)), 25)
        self.assertEqual(serving_choice(COSTS, (1, 2), fixed=((2, None),)), (1, 2, None))
        everything = ((2, 0), (0, 1), (1, None))
        self.assertEqual(serving_choice(COSTS, (2,), fixed=everything), (1, None, 0))
        self.assertEqual(least_need(COSTS, (2,), fixed=everything), 12 + 12 + 14)
        self.assertEqual(least_need(COSTS, (0,), fixed=everything), 12 + 14)

    def test_all_columns(self):
        source = random.Random(92)
        for _ in range(100):
            costs, fixed = random_case(source)
            members = tuple(source.sample(range(len(costs)), len(costs)))
            self.assertEqual(least_need(costs, members, fixed=fixed), least_total(costs, fixed=fixed))
            self.assertEqual(serving_choice(costs, members, fixed=fixed), first_least(costs, fixed=fixed))

    def test_no_choice_has_a_lesser_need(self):
        source = random.Random(116)
        others = []
        for _ in range(120):
            costs, fixed = random_case(source)
            members = random_members(source, len(costs))
            counted = counting(len(costs), fixed)
            least = min(slow_need(costs, choice, members) for choice in counted)
            self.assertEqual(least_need(costs, members, fixed=fixed), least)
            expected = min((choice for choice in counted if slow_need(costs, choice, members) == least),
                           key=lambda choice: cost_of(costs, choice))
            # The choices are in order, and the first of the cheapest ones is taken.
            self.assertEqual(serving_choice(costs, members, fixed=fixed), expected)
            others.append(expected != first_least(costs, fixed=fixed))
        self.assertIn(True, others)

    def test_6_columns(self):
        source = random.Random(6)
        for _ in range(5):
            costs = tuple(tuple(source.choice((0, 1, 5)) for _ in range(6)) for _ in range(6))
            members = random_members(source, 6)
            choice = serving_choice(costs, members)
            self.assertFalse(is_circular(choice))
            self.assertEqual(slow_need(costs, choice, members), least_need(costs, members))


class MeetingTests(unittest.TestCase):

    def test_example(self):
        self.assertEqual(meeting((((0,), 12), ((2, 1), 1)), (1,)), (((2, 1), 1),))

    def test_edges(self):
        pairs = (((2, 0), 0), ((1,), 5), ((2, 0), 0), ((0, 1, 2), 3))
        self.assertEqual(meeting(pairs, (2, 1)), pairs)
        self.assertEqual(meeting(pairs, (0,)), (pairs[0], pairs[2], pairs[3]))
        self.assertEqual(meeting(pairs, (1,)), (pairs[1], pairs[3]))
        self.assertEqual(meeting(pairs, (5, 4)), ())
        self.assertEqual(meeting((), (0,)), ())

    def test_of_the_certificate(self):
        self.assertEqual(dual_bound(COSTS, meeting(CERTIFICATE, (1, 2))), 24)

    def test_no_need_is_less_than_the_bound(self):
        source = random.Random(117)
        for _ in range(150):
            costs, fixed = random_case(source)
            members = random_members(source, len(costs))
            for pairs in (random_pairs(source, len(costs)), dual_of(costs, fixed=fixed)):
                met = meeting(pairs, members)
                self.assertEqual(met, tuple(pair for pair in pairs if set(pair[0]) & set(members)))
                bound = dual_bound(costs, met, fixed=fixed)
                self.assertLessEqual(bound, least_need(costs, members, fixed=fixed))
                for choice in counting(len(costs), fixed)[:200]:
                    self.assertLessEqual(bound, slow_need(costs, choice, members))


class DistanceTests(unittest.TestCase):

    def test_examples(self):
        self.assertEqual(distances_of(COSTS), (13, 14, 14))
        self.assertEqual(distance_pairs(COSTS, 2), (((0, 1, 2), 13), ((1, 2), 1)))

    def test_other_columns_of_the_example(self):
        self.assertEqual(distance_pairs(COSTS, 1), (((0, 1, 2), 13), ((1, 2), 1)))
        self.assertEqual(distance_pairs(COSTS, 0), (((0, 1, 2), 13),))

    def test_one_column(self):
        self.assertEqual(distances_of(((7,),)), (7,))
        self.assertEqual(distance_pairs(((7,),), 0), (((0,), 7),))

    def test_distances_of_0(self):
        self.assertEqual(distances_of(ZEROS), (0, 0, 0))
        self.assertEqual(distance_pairs(ZEROS, 1), ())
        costs = ((0, 5, 5), (0, 5, 5), (3, 3, 3))
        self.assertEqual(distances_of(costs), (0, 0, 3))
        self.assertEqual(distance_pairs(costs, 1), ())
        self.assertEqual(distance_pairs(costs, 2), (((2,), 3),))

    def test_equal_distances(self):
        costs = ((4, 4, 4), (4, 4, 4), (9, 9, 9))
        self.assertEqual(distances_of(costs), (4, 4, 9))
        self.assertEqual(distance_pairs(costs, 0), (((0, 1, 2), 4),))
        self.assertEqual(distance_pairs(costs, 1), (((0, 1, 2), 4),))
        self.assertEqual(distance_pairs(costs, 2), (((0, 1, 2), 4), ((2,), 5)))

    def test_fixed_references(self):
        self.assertEqual(distances_of(COSTS, fixed=((0, 1),)), (26, 14, 14))
        self.assertEqual(distance_pairs(COSTS, 0, fixed=((0, 1),)), (((0, 1, 2), 14), ((0,), 12)))
        self.assertEqual(distances_of(COSTS, fixed=((0, 1), (1, 2), (2, None))), (37, 25, 14))

    def test_they_prove_the_distance(self):
        source = random.Random(118)
        for _ in range(150):
            costs, fixed = random_case(source)
            distances = distances_of(costs, fixed=fixed)
            counted = counting(len(costs), fixed)
            for column, distance in enumerate(distances):
                self.assertEqual(distance, min(slow_need(costs, choice, (column,)) for choice in counted))
                pairs = distance_pairs(costs, column, fixed=fixed)
                self.assertEqual(sum(amount for _, amount in pairs), distance)
                self.assertEqual(meeting(pairs, (column,)), pairs)
                for other in range(len(costs)):
                    self.assertEqual(excess_of(costs, pairs, other, fixed=fixed), 0)
                self.assertEqual(dual_bound(costs, meeting(pairs, (column,)), fixed=fixed), distance)
                before = 0
                for members, amount in pairs:
                    before += amount
                    self.assertGreater(amount, 0)
                    self.assertEqual(members, tuple(other for other in range(len(costs)) if distances[other] >= before))


class RaisingTests(unittest.TestCase):

    def test_circular_fixed_references(self):
        for fixed in CIRCULAR:
            for call in (lambda: least_need(COSTS, (1,), fixed=fixed), lambda: serving_choice(COSTS, (1,), fixed=fixed),
                         lambda: distances_of(COSTS, fixed=fixed), lambda: distance_pairs(COSTS, 0, fixed=fixed)):
                with self.assertRaises(CircularReferences):
                    call()

    def test_fixed_references_that_are_not_circular(self):
        source = random.Random(91)
        for members in subsets(4):
            fixed = random_fixed(source, 4, share=1)
            costs = ((3, 1, 4, 1), (5, 9, 2, 6), (5, 3, 5, 8), (9, 7, 9, 3))
            references = dict(fixed)
            choice = tuple(references[column] for column in range(4))
            self.assertEqual(serving_choice(costs, members, fixed=fixed), choice)
            self.assertEqual(least_need(costs, members, fixed=fixed), slow_need(costs, choice, members))


if __name__ == "__main__":
    unittest.main()
