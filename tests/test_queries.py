"""[170] to [176]: groups, aggregates, answers, how queries are checked, the columns of a query."""

import random
import unittest

from slow_files import ORDERS, random_table
from slow_queries import random_query, slow_aggregate, slow_answer, slow_columns

from refpack.errors import HasLabels, UnknownColumn, WrongCell
from refpack.queries import aggregate_of, answer, check_query, query_columns

BERLIN = ("and", (("is", "city", "=", "Berlin"), ("not", ("is", "zip", "<", 10117))))
NONE = ("or", ())
EMPTY = (("size", ("small", "large"), ()), ("n", None, ()))
SIZES = (("size", ("small", "medium", "large"), (2, 0, 2, 2)), ("n", None, (5, -3, 5, 8)))
COUNT = (("count",),)


class AnswerTests(unittest.TestCase):

    def test_examples(self):
        self.assertEqual(answer(ORDERS, (BERLIN, None, (
            ("count",), ("sum", "zip"), ("min", "city"), ("max", "ordered"), ("distinct", "zip")))),
            ((None, (2, 20234, "Berlin", 20105, 1)),))
        self.assertEqual(answer(ORDERS, (("is", "city", ">", "Berlin"), "zip", (("count",), ("max", "city")))),
                         ((80331, (2, "Munich")),))
        self.assertEqual(answer(ORDERS, (NONE, None, (("count",), ("sum", "zip"), ("min", "zip")))),
                         ((None, (0, 0, None)),))
        self.assertEqual(answer(ORDERS, (NONE, "city", COUNT)), ())

    def test_groups_by_a_column_with_labels(self):
        # The places of the labels count, not their letters; a label that no row has gives no group.
        self.assertEqual(answer(SIZES, (None, "size", (("count",), ("sum", "n"), ("distinct", "n")))),
                         (("small", (1, -3, 1)), ("large", (3, 18, 2))))

    def test_groups_by_a_column_without_labels(self):
        self.assertEqual(answer(SIZES, (None, "n", (("count",), ("min", "size"), ("max", "n")))),
                         ((-3, (1, "small", -3)), (5, (2, "large", 5)), (8, (1, "large", 8))))

    def test_no_rows(self):
        everything = (("count",), ("sum", "n"), ("min", "size"), ("max", "n"), ("distinct", "size"), ("distinct", "n"))
        self.assertEqual(answer(EMPTY, (None, None, everything)), ((None, (0, 0, None, None, 0, 0)),))
        self.assertEqual(answer(EMPTY, (None, "size", everything)), ())
        self.assertEqual(answer(SIZES, (NONE, None, everything)), ((None, (0, 0, None, None, 0, 0)),))
        self.assertEqual(answer(SIZES, (NONE, "n", everything)), ())

    def test_a_query_without_columns(self):
        self.assertEqual(answer(ORDERS, (None, None, COUNT)), ((None, (6,)),))
        self.assertEqual(answer(ORDERS, (("not", NONE), None, COUNT * 6)), ((None, (6,) * 6),))

    def test_a_column_several_times(self):
        query = (("is", "n", ">", 0), "n", (("sum", "n"), ("min", "n"), ("max", "n"), ("distinct", "n"), ("sum", "n")))
        self.assertEqual(answer(SIZES, query), ((5, (10, 5, 5, 1, 10)), (8, (8, 8, 8, 1, 8))))

    def test_against_slow_answers(self):
        source = random.Random(174)
        for _ in range(300):
            table = random_table(source)
            query = random_query(source, table)
            self.assertEqual(answer(table, query), slow_answer(table, query))
            self.assertIsNone(check_query(table, query))


class AggregateTests(unittest.TestCase):

    def test_of_some_rows(self):
        for aggregate, expected in ((("count",), 2), (("sum", "n"), 3 - 6 + 8), (("min", "n"), -3), (("max", "n"), 8),
                                    (("min", "size"), "small"), (("max", "size"), "large"), (("distinct", "size"), 2)):
            self.assertEqual(aggregate_of(SIZES, aggregate, (1, 3)), expected)

    def test_of_no_rows(self):
        for aggregate, expected in ((("count",), 0), (("sum", "n"), 0), (("min", "n"), None), (("max", "size"), None),
                                    (("distinct", "n"), 0)):
            self.assertEqual(aggregate_of(SIZES, aggregate, ()), expected)

    def test_great_sums(self):
        table = (("a", None, (1000000000,) * 24),)
        self.assertEqual(aggregate_of(table, ("sum", "a"), tuple(range(24))), 24000000000)

    def test_a_column_called_count(self):
        table = (("count", None, (3, 4)), ("sum", ("x",), (0, 0)))
        self.assertEqual(aggregate_of(table, ("sum", "count"), (0, 1)), 7)
        self.assertEqual(aggregate_of(table, ("count",), (0, 1)), 2)
        with self.assertRaises(HasLabels) as caught:
            aggregate_of(table, ("sum", "sum"), ())
        self.assertEqual(caught.exception.column, "sum")

    def test_against_slow_aggregates(self):
        source = random.Random(173)
        for _ in range(100):
            table = random_table(source)
            many = len(table[0][2])
            rows = tuple(sorted(source.sample(range(many), source.randint(0, many))))
            for aggregate in random_query(source, table)[2]:
                self.assertEqual(aggregate_of(table, aggregate, rows), slow_aggregate(table, aggregate, rows))

    def test_what_is_raised(self):
        for rows in ((), (0, 2)):
            for word in ("sum", "min", "max", "distinct"):
                with self.assertRaises(UnknownColumn) as caught:
                    aggregate_of(SIZES, (word, "N"), rows)
                self.assertEqual(caught.exception.name, "N")
            with self.assertRaises(HasLabels) as caught:
                aggregate_of(SIZES, ("sum", "size"), rows)
            self.assertEqual(caught.exception.column, "size")


class CheckTests(unittest.TestCase):

    def check_raised(self, error, name, query, table=SIZES):
        attribute = "name" if error is UnknownColumn else "column"
        for call in (check_query, answer, query_columns):
            with self.assertRaises(error) as caught:
                call(table, query)
            self.assertEqual(getattr(caught.exception, attribute), name)

    def test_example(self):
        self.check_raised(HasLabels, "city", (None, None, (("count",), ("sum", "city"))), ORDERS)

    def test_each_error(self):
        self.check_raised(UnknownColumn, "x", (("is", "x", "=", 0), None, COUNT))
        self.check_raised(WrongCell, "n", (("is", "n", "=", "0"), None, COUNT))
        self.check_raised(UnknownColumn, "", (None, "", COUNT))
        for word in ("sum", "min", "max", "distinct"):
            self.check_raised(UnknownColumn, "Size", (None, None, (("count",), (word, "Size"))))
        self.check_raised(HasLabels, "size", (None, "size", (("max", "size"), ("sum", "size"))))

    def test_which_comes_first(self):
        unknown, wrong = ("is", "x", "=", 0), ("is", "n", "=", "0")
        self.check_raised(WrongCell, "n", (("and", (wrong, unknown)), "y", (("sum", "size"),)))
        self.check_raised(UnknownColumn, "x", (("or", (("not", unknown), wrong)), "y", (("sum", "size"),)))
        self.check_raised(UnknownColumn, "x", (("is", "x", "=", "no cell"), "y", (("sum", "z"),)))
        self.check_raised(UnknownColumn, "y", (("is", "n", "=", 0), "y", (("sum", "size"), ("sum", "z"))))
        self.check_raised(HasLabels, "size", (None, "n", (("sum", "size"), ("sum", "z"))))
        self.check_raised(UnknownColumn, "z", (None, "n", (("count",), ("sum", "z"), ("sum", "size"))))

    def test_without_rows_too(self):
        self.check_raised(WrongCell, "size", (("and", (NONE, ("is", "size", "=", "huge"))), None, COUNT), EMPTY)
        self.check_raised(HasLabels, "size", (NONE, "n", (("sum", "size"),)), EMPTY)
        self.check_raised(UnknownColumn, "x", (NONE, "x", COUNT), EMPTY)


class ColumnTests(unittest.TestCase):

    def test_example(self):
        self.assertEqual(query_columns(ORDERS, (("is", "shipped", ">", 0), None, (("max", "city"),))),
                         ("city", "shipped"))

    def test_edges(self):
        self.assertEqual(query_columns(ORDERS, (None, None, COUNT)), ())
        self.assertEqual(query_columns(ORDERS, (("and", (NONE, ("not", ("and", ())))), None, COUNT)), ())
        self.assertEqual(query_columns(ORDERS, (None, "shipped", COUNT)), ("shipped",))
        self.assertEqual(query_columns(ORDERS, (None, "zip", (("sum", "zip"), ("max", "zip")))), ("zip",))
        everything = (("or", (("is", "shipped", "=", 0), ("is", "shipped", "<", 7))), "city",
                      (("max", "ordered"), ("count",), ("distinct", "zip"), ("sum", "shipped")))
        self.assertEqual(query_columns(ORDERS, everything), ("zip", "city", "ordered", "shipped"))

    def test_conditions_that_cannot_change_the_answer(self):
        self.assertEqual(query_columns(ORDERS, (("and", (NONE, ("is", "zip", "=", 0))), None, COUNT)), ("zip",))

    def test_against_slow_columns(self):
        source = random.Random(176)
        for _ in range(200):
            table = random_table(source)
            query = random_query(source, table)
            self.assertEqual(query_columns(table, query), slow_columns(table, query))

    def test_other_columns_do_not_count(self):
        source = random.Random(177)
        for _ in range(100):
            table = random_table(source)
            query = random_query(source, table)
            names = query_columns(table, query)
            zeros = (0,) * len(table[0][2])
            other = tuple(column if column[0] in names else (*column[:2], zeros) for column in table)
            self.assertEqual(answer(other, query), answer(table, query))


if __name__ == "__main__":
    unittest.main()
