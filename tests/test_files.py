"""[160] to [162], [176], [214]: opened files, their counters, walks, and what queries need."""

import random
import unittest

from slow_files import GREATEST, ORDERS, SMALL, random_file, random_table
from slow_queries import random_query, slow_answer, slow_columns

from refpack.errors import BadFile, BadValues, CircularReferences, HasLabels, UnknownColumn, WrongCell
from refpack.files import File
from refpack.packing import pack
from refpack.plans import needed_columns
from refpack.queries import answer
from refpack.reading import listed, read_file
from refpack.tables import rows_of
from refpack.writing import encode, written

# In the packed file of ORDERS shipped is an offset from ordered, and zip a lookup by city.
QUERY = (("is", "shipped", ">", 20102), "city", (("count",), ("max", "shipped")))
NO_ROWS = (("a", None, ()), ("b", ("x",), ()))


def no_rows():
    return File(encode(NO_ROWS, (("frame", None, 0), ("lookup", "a", 0))))


class ExampleTests(unittest.TestCase):

    def test_of_the_first_pages(self):
        file = File(pack(ORDERS))
        self.assertEqual(file.query(QUERY), (("Berlin", (2, 20107)), ("Munich", (2, 20105))))
        self.assertEqual(file.counters, (0, 1, 1, 1))

    def test_of_the_interface(self):
        file = File(pack(ORDERS))
        self.assertEqual(file.column("shipped"), (20102, 20102, 20104, 20104, 20105, 20107))
        self.assertEqual(file.counters, (0, 0, 1, 1))
        self.assertEqual(file.exchange("ordered", 40), 1)
        self.assertEqual(file.needs((("is", "zip", ">", 0), None, (("count",),))), (("zip", "city"), 29))
        self.assertEqual(tuple(file)[3], (80331, "Munich", 20102, 20104))
        self.assertEqual(tuple(file.walk())[0], (10115, "Berlin", 20100, 20102))
        self.assertEqual(file.counters, (1, 1, 41, 2))
        with self.assertRaises(UnknownColumn) as caught:
            file.column("Zip")
        self.assertEqual(caught.exception.name, "Zip")


class OpenedTests(unittest.TestCase):

    def test_what_it_has(self):
        source = random.Random(160)
        for _ in range(40):
            numbers = random_file(source, random_table(source))
            table, plan = read_file(numbers)
            file = File(numbers)
            self.assertEqual((file.table, file.plan), (table, plan))
            self.assertEqual(file.counters, (0,) * len(table))
            self.assertEqual(len(file), len(table[0][2]))
            self.assertEqual(tuple(file), rows_of(table))

    def test_what_is_raised(self):
        with self.assertRaises(BadFile) as caught:
            File(SMALL[:-1])
        self.assertEqual((caught.exception.place, caught.exception.reason), (19, "end"))
        with self.assertRaises(BadValues) as caught:
            File((*SMALL[:13], 120, *SMALL[14:]))
        self.assertEqual((caught.exception.column, caught.exception.row), ("a", 0))
        with self.assertRaises(CircularReferences):
            File(written((0, (("a", None, ("lookup", 0, 0), ((), (), ())),))))

    def test_properties_cannot_be_assigned(self):
        file = File(SMALL)
        for name in ("table", "plan", "counters"):
            with self.assertRaises(AttributeError):
                setattr(file, name, ())

    def test_counters_are_a_tuple_that_stays(self):
        file = File(SMALL)
        before = file.counters
        file.column("a")
        self.assertEqual(before, (0,))
        self.assertEqual(file.counters, (1,))


class ColumnTests(unittest.TestCase):

    def test_a_chain_counts_once(self):
        table = (("a", None, (1, 2)), ("b", None, (1, 2)), ("c", None, (1, 2)), ("d", None, (1, 2)))
        plan = (("offset", "b", 0), ("offset", "d", 0), ("frame", None, 1), ("frame", None, 1))
        file = File(encode(table, plan))
        self.assertEqual(file.column("a"), (1, 2))
        self.assertEqual(file.counters, (1, 1, 0, 1))
        file.column("d")
        file.column("c")
        file.column("b")
        self.assertEqual(file.counters, (1, 2, 1, 3))

    def test_values_and_not_cells(self):
        self.assertEqual(File(pack(ORDERS)).column("city"), (0, 0, 0, 1, 1, 0))

    def test_no_rows(self):
        file = no_rows()
        self.assertEqual(file.column("b"), ())
        self.assertEqual(file.counters, (1, 1))


class QueryTests(unittest.TestCase):

    def test_a_query_without_columns(self):
        file = File(pack(ORDERS))
        self.assertEqual(file.query((None, None, (("count",),))), ((None, (6,)),))
        self.assertEqual(file.needs((None, None, (("count",),))), ((), 0))
        self.assertEqual(file.counters, (0, 0, 0, 0))

    def test_a_column_that_occurs_several_times(self):
        file = File(pack(ORDERS))
        query = (("or", (("is", "ordered", "=", 0), ("is", "ordered", "<", 5), ("is", "shipped", ">", 0))), "ordered",
                 (("sum", "ordered"), ("max", "ordered"), ("max", "shipped")))
        self.assertEqual(file.query(query), answer(ORDERS, query))
        self.assertEqual(file.counters, (0, 0, 1, 1))
        self.assertEqual(file.needs(query), (("ordered", "shipped"), 14 + 12))

    def test_conditions_that_cannot_change_the_answer(self):
        file = File(pack(ORDERS))
        query = (("or", (("and", ()), ("is", "zip", "=", 5))), None, (("count",),))
        self.assertEqual(file.query(query), ((None, (6,)),))
        self.assertEqual(file.counters, (1, 1, 0, 0))

    def test_the_sizes_that_the_file_has(self):
        # Column b has an entry and a patch that are not necessary.
        contents = (2, (("a", None, ("frame", None, 1), ((5,), (), (0, 1))),
                        ("b", None, ("dictionary", None, 1), ((1, 2, 2), ((1, 2),), (0, 1)))))
        file = File(written(contents))
        self.assertEqual(file.needs((None, "b", (("count",),))), (("b",), 7 + 12 + 6 + 1))
        self.assertEqual(file.needs((None, "b", (("sum", "a"),))), (("a", "b"), 12 + 26))

    def test_against_slow_answers(self):
        source = random.Random(176)
        for _ in range(80):
            numbers = random_file(source, random_table(source))
            file = File(numbers)
            table, plan = read_file(numbers)
            expected = [0] * len(table)
            for _ in range(4):
                query = random_query(source, table)
                needed = needed_columns(table, plan, slow_columns(table, query))
                size = sum(row[7] for row in listed(numbers) if row[0] in needed)
                self.assertEqual(file.needs(query), (needed, size))
                self.assertEqual(file.counters, tuple(expected))
                self.assertEqual(file.query(query), slow_answer(table, query))
                for place, column in enumerate(table):
                    expected[place] += column[0] in needed
                self.assertEqual(file.counters, tuple(expected))

    def test_a_call_that_raises_an_error_adds_nothing(self):
        file = File(pack(ORDERS))
        file.column("shipped")
        for call, error in (
                (lambda: file.column("x"), UnknownColumn),
                (lambda: file.exchange("x", 5), UnknownColumn),
                (lambda: file.query((("is", "city", "=", "Bonn"), "zip", (("count",),))), WrongCell),
                (lambda: file.query((None, "x", (("count",),))), UnknownColumn),
                (lambda: file.query((None, "zip", (("max", "zip"), ("sum", "city")))), HasLabels),
                (lambda: file.needs((("is", "city", "=", "Bonn"), "zip", (("count",),))), WrongCell),
                (lambda: file.needs((None, "zip", (("sum", "city"),))), HasLabels),
                (lambda: file.needs((None, None, (("max", "x"),))), UnknownColumn)):
            with self.assertRaises(error):
                call()
            self.assertEqual(file.counters, (0, 0, 1, 1))


class WalkTests(unittest.TestCase):

    def test_the_first_step_adds(self):
        file = File(pack(ORDERS))
        walk = file.walk()
        self.assertEqual(file.counters, (0, 0, 0, 0))
        self.assertEqual(next(walk), (10115, "Berlin", 20100, 20102))
        self.assertEqual(file.counters, (1, 1, 1, 1))
        self.assertEqual(len(list(walk)), 5)
        self.assertEqual(file.counters, (1, 1, 1, 1))

    def test_no_rows(self):
        file = no_rows()
        walk = file.walk()
        self.assertEqual(file.counters, (0, 0))
        self.assertEqual(list(walk), [])
        self.assertEqual(file.counters, (1, 1))
        self.assertEqual(list(walk), [])
        self.assertEqual(file.counters, (1, 1))
        self.assertEqual(tuple(file), ())
        self.assertEqual(len(file), 0)

    def test_a_walk_that_is_left(self):
        file = File(pack(ORDERS))
        for row in file.walk():
            if row[0] == 80331:
                break
        self.assertEqual(file.counters, (1, 1, 1, 1))
        self.assertEqual(tuple(file.walk()), rows_of(ORDERS))
        self.assertEqual(file.counters, (2, 2, 2, 2))

    def test_a_walk_that_is_never_begun(self):
        file = File(pack(ORDERS))
        file.walk()
        self.assertEqual(file.counters, (0, 0, 0, 0))

    def test_two_walks_at_once(self):
        file = File(pack(ORDERS))
        first, second = file.walk(), file.walk()
        rows = rows_of(ORDERS)
        self.assertEqual([next(first), next(first)], list(rows[:2]))
        self.assertEqual(next(second), rows[0])
        self.assertEqual(file.counters, (2, 2, 2, 2))
        self.assertEqual(tuple(first), rows[2:])
        self.assertEqual(tuple(second), rows[1:])
        self.assertEqual(file.counters, (2, 2, 2, 2))

    def test_a_walk_within_another_one(self):
        file = File(pack(ORDERS))
        self.assertEqual(len([row for row in file.walk() for _ in file.walk()]), 36)
        self.assertEqual(file.counters, (7, 7, 7, 7))

    def test_iterating_adds_nothing(self):
        file = File(pack(ORDERS))
        self.assertEqual(tuple(file), rows_of(ORDERS))
        self.assertEqual([row for row in file], list(rows_of(ORDERS)))
        self.assertEqual(len(file), 6)
        self.assertEqual(file.counters, (0, 0, 0, 0))
        self.assertEqual((file.table, len(file.plan)), (ORDERS, 4))
        self.assertEqual(file.counters, (0, 0, 0, 0))


class ExchangeTests(unittest.TestCase):

    def test_any_integer(self):
        file = File(pack(ORDERS))
        self.assertEqual(file.exchange("zip", -7), 0)
        self.assertEqual(file.exchange("zip", 10 ** 29), -7)
        self.assertEqual(file.exchange("zip", 0), 10 ** 29)
        self.assertEqual(file.exchange("shipped", -3), 0)
        self.assertEqual(file.counters, (0, 0, 0, -3))
        file.column("shipped")
        self.assertEqual(file.counters, (0, 0, 1, -2))

    def test_during_a_walk(self):
        file = File(pack(ORDERS))
        walk = file.walk()
        self.assertEqual(file.exchange("zip", 10), 0)
        next(walk)
        self.assertEqual(file.counters, (11, 1, 1, 1))
        self.assertEqual(file.exchange("zip", -4), 11)
        next(walk)
        self.assertEqual(file.counters, (-4, 1, 1, 1))
        self.assertEqual(len(list(walk)), 4)
        self.assertEqual(file.counters, (-4, 1, 1, 1))

    def test_during_an_iteration(self):
        file = File(pack(ORDERS))
        for number, _ in enumerate(file):
            self.assertEqual(file.exchange("city", number + 1), number)
        self.assertEqual(file.counters, (0, 6, 0, 0))


class IndependenceTests(unittest.TestCase):

    def test_two_files_opened_from_the_same_integers(self):
        numbers = pack(ORDERS)
        first, second = File(numbers), File(numbers)
        first.column("zip")
        second.exchange("city", GREATEST)
        walk = first.walk()
        next(walk)
        self.assertEqual(first.counters, (2, 2, 1, 1))
        self.assertEqual(second.counters, (0, GREATEST, 0, 0))
        self.assertEqual(tuple(second.walk()), rows_of(ORDERS))
        self.assertEqual(first.counters, (2, 2, 1, 1))
        self.assertEqual(second.counters, (1, GREATEST + 1, 1, 1))


if __name__ == "__main__":
    unittest.main()
