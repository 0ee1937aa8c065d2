"""[70] to [74]: circles, chains, ranks, the order of computing and entering columns."""

import itertools
import unittest

from refpack.errors import CircularReferences
from refpack.references import chain_of, circle_of, computing_order, entering_columns, ranks_of


def choices():
    """All choices for 1 to 4 columns, with columns that refer to themselves, and some longer ones."""
    for many in range(1, 5):
        yield from itertools.product((None, *range(many)), repeat=many)
    yield from ((1, 2, 3, 4, 5, None), (1, 2, 3, 4, 5, 0), (None, 0, 1, 2, 3, 4), (5, 0, 1, 2, 3, 3))
    yield (1, 0, 1, 4, 3, 4)


def steps_from(choice, column):
    """The columns that are reached from a column by following references at least once, in order."""
    reached = []
    for _ in choice:
        column = choice[column]
        if column is None:
            break
        reached.append(column)
    return reached


def set_has_no_entry(choice):
    many = len(choice)
    sets = (members for size in range(1, many + 1) for members in itertools.combinations(range(many), size))
    return any(not entering_columns(choice, members) for members in sets)


class CircleTests(unittest.TestCase):

    def test_examples(self):
        self.assertEqual(circle_of((1, 2, 3, 1)), (1, 2, 3))

    def test_a_column_that_refers_to_itself(self):
        self.assertEqual(circle_of((0,)), (0,))
        self.assertEqual(circle_of((None, 1)), (1,))
        self.assertEqual(circle_of((1, 1)), (1,))

    def test_circles_without_column_0(self):
        self.assertEqual(circle_of((None, 3, None, 4, 1)), (1, 3, 4))
        self.assertEqual(circle_of((2, 0, 3, 2)), (2, 3))
        self.assertEqual(circle_of((None, None, 2, 4, 3)), (2,))

    def test_no_circle(self):
        for choice in ((None,), (None, None), (1, None), (2, 0, None), (1, 2, 3, 4, 5, None)):
            self.assertIsNone(circle_of(choice))

    def test_all_small_choices(self):
        for choice in choices():
            on_circle = [column for column in range(len(choice)) if column in steps_from(choice, column)]
            if not on_circle:
                self.assertIsNone(circle_of(choice))
                continue
            circle = [on_circle[0]]
            while choice[circle[-1]] != circle[0]:
                circle.append(choice[circle[-1]])
            self.assertEqual(circle_of(choice), tuple(circle), choice)


class ChainTests(unittest.TestCase):

    def test_examples(self):
        self.assertEqual(chain_of((2, 0, None), 1), (1, 0, 2))
        self.assertEqual(chain_of((2, 0, None), 2), (2,))
        self.assertEqual(ranks_of((2, 0, None, 3)), (1, 2, 0, None))

    def test_chains_that_do_not_end(self):
        for choice, column in (((0,), 0), ((1, 0), 0), ((1, 0), 1), ((None, 2, 2), 1), ((None, 2, 3, 2), 1)):
            with self.assertRaises(CircularReferences):
                chain_of(choice, column)
        self.assertEqual(chain_of((None, 2, 3, 2, 0), 4), (4, 0))

    def test_all_small_choices(self):
        for choice in choices():
            ranks = []
            for column in range(len(choice)):
                reached = steps_from(choice, column)
                if len(reached) == len(choice):
                    ranks.append(None)
                    with self.assertRaises(CircularReferences):
                        chain_of(choice, column)
                else:
                    ranks.append(len(reached))
                    self.assertEqual(chain_of(choice, column), (column, *reached))
            self.assertEqual(ranks_of(choice), tuple(ranks), choice)
            self.assertEqual(None in ranks, circle_of(choice) is not None)


class OrderTests(unittest.TestCase):

    def test_examples(self):
        self.assertEqual(computing_order((2, 0, None, 3)), (2, 0, 1))

    def test_the_first_column_that_can_be_computed(self):
        self.assertEqual(computing_order((None, None, None)), (0, 1, 2))
        self.assertEqual(computing_order((1, None, 0, None)), (1, 0, 2, 3))
        self.assertEqual(computing_order((3, None, 0, None)), (1, 3, 0, 2))
        self.assertEqual(computing_order((1, 2, 3, 4, 5, None)), (5, 4, 3, 2, 1, 0))
        self.assertEqual(computing_order((1, 0)), ())
        self.assertEqual(computing_order((0,)), ())

    def test_all_small_choices(self):
        for choice in choices():
            order = computing_order(choice)
            ranked = [column for column, rank in enumerate(ranks_of(choice)) if rank is not None]
            self.assertEqual(sorted(order), ranked)
            for place, column in enumerate(order):
                done = order[:place]
                ready = [other for other in range(len(choice))
                         if other not in done and (choice[other] is None or choice[other] in done)]
                self.assertEqual(column, ready[0])


class EnteringTests(unittest.TestCase):

    def test_examples(self):
        self.assertEqual(entering_columns((2, 0, None), (0, 1)), (0,))

    def test_entering(self):
        self.assertEqual(entering_columns((2, 0, None), ()), ())
        self.assertEqual(entering_columns((2, 0, None), (2, 1)), (1, 2))
        self.assertEqual(entering_columns((2, 0, None), (1, 2, 0)), (2,))
        self.assertEqual(entering_columns((1, 0, 2), (1, 0)), ())
        self.assertEqual(entering_columns((1, 0, 2), (2,)), ())
        self.assertEqual(entering_columns((None,) * 6, (5, 3, 4, 0, 2, 1)), (0, 1, 2, 3, 4, 5))

    def test_no_circle_if_and_only_if_every_set_is_entered(self):
        for choice in choices():
            self.assertEqual(set_has_no_entry(choice), circle_of(choice) is not None, choice)


if __name__ == "__main__":
    unittest.main()
