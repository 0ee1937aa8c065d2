"""[163], [176]: a column, or the columns of a query, read in part."""

import random
import unittest

from slow_files import (
    ORDERS, SMALL, TRIPS, random_contents, random_file, random_table, slow_contents, slow_table,
)
from slow_queries import random_query, slow_answer, slow_columns

from refpack.errors import BadFile, BadValues, CircularReferences, HasLabels, UnknownColumn, WrongCell
from refpack.packing import pack
from refpack.partial import answer_in, column_in
from refpack.writing import written

SPOILT = written((2, (
    ("a", None, ("frame", None, 1), ((5,), (), (0, 1))), ("b", None, ("offset", 2, 0), ((0,), (), (0, 0))),
    ("c", None, ("lookup", 1, 0), ((), (), (0, 0))))))
# Column a is in order; b has a value that is not permitted, and so has what refers to it; e refers to itself.
FAULTY = written((1, (
    ("a", ("x", "y"), ("frame", None, 1), ((0,), (), (1,))), ("b", None, ("frame", None, 0), ((2147483647,), (), (0,))),
    ("c", None, ("lookup", 1, 0), ((7,), (), (0,))), ("d", None, ("lookup", 0, 0), ((7, 8), (), (0,))),
    ("e", None, ("offset", 4, 0), ((7,), (), (0,))), ("f", ("z",), ("lookup", 0, 0), ((0,), (), (0,))))))


def outcome(call, *arguments):
    try:
        return call(*arguments)
    except BadFile as fault:
        return "BadFile", fault.place, fault.reason
    except BadValues as fault:
        return "BadValues", fault.column, fault.row
    except CircularReferences:
        return ("CircularReferences",)


def slow_part(contents, names):
    """The table with the columns that are reached alone, or what is raised; other columns are replaced by frames."""
    rows, parts = contents
    kept = [place for place, part in enumerate(parts) if part[0] in names]
    for place in kept:
        reference = parts[place][2][1]
        if reference is not None and reference not in kept:
            kept.append(reference)
    frame = ("frame", None, 0), ((0,), (), (0,) * rows)
    return slow_table((rows, tuple(part if place in kept else (*part[:2], *frame) for place, part in enumerate(parts))))


class ColumnTests(unittest.TestCase):

    def test_examples(self):
        self.assertEqual(column_in(SPOILT, "a"), (5, 6))
        for name in ("b", "c"):
            with self.assertRaises(CircularReferences):
                column_in(SPOILT, name)

    def test_faults_of_other_columns(self):
        self.assertEqual(column_in(FAULTY, "a"), (1,))
        self.assertEqual(outcome(column_in, FAULTY, "b"), ("BadValues", "b", 0))
        # The fault of b comes first, as b is computed before c.
        self.assertEqual(outcome(column_in, FAULTY, "c"), ("BadValues", "b", 0))
        self.assertEqual(outcome(column_in, FAULTY, "d"), ("BadValues", "d", None))
        self.assertEqual(outcome(column_in, FAULTY, "e"), ("CircularReferences",))
        self.assertEqual(column_in(FAULTY, "f"), (0,))

    def test_files_in_order(self):
        for name, _, values in ORDERS:
            self.assertEqual(column_in(pack(ORDERS), name), values)

    def test_unknown_columns(self):
        for numbers in (SPOILT, FAULTY, SMALL):
            with self.assertRaises(UnknownColumn) as caught:
                column_in(numbers, "A")
            self.assertEqual(caught.exception.name, "A")

    def test_bad_files_come_first(self):
        for name in ("a", "x"):
            self.assertEqual(outcome(column_in, SPOILT[:-1], name), ("BadFile", len(SPOILT) - 1, "end"))
            self.assertEqual(outcome(column_in, (*SPOILT, 0), name), ("BadFile", len(SPOILT), "more"))
            self.assertEqual(outcome(column_in, (), name), ("BadFile", 0, "end"))

    def test_no_rows(self):
        numbers = written((0, (("a", None, ("lookup", 0, 0), ((), (), ())), ("b", None, ("step", None, 0),
                                                                           ((5,), (), ())))))
        self.assertEqual(column_in(numbers, "b"), ())
        self.assertEqual(outcome(column_in, numbers, "a"), ("CircularReferences",))

    def test_against_slow_parts(self):
        source = random.Random(163)
        outcomes = []
        for _ in range(250):
            contents = random_contents(source)
            numbers = written(contents)
            for place, part in enumerate(contents[1]):
                expected = slow_part(contents, [part[0]])
                found = outcome(column_in, numbers, part[0])
                if isinstance(expected[0], str):
                    self.assertEqual(found, expected)
                    outcomes.append(expected[0])
                else:
                    self.assertEqual(found, expected[place][2])
                    outcomes.append("values" if isinstance(slow_table(contents)[0], tuple) else "values in part")
        self.assertEqual(sorted(set(outcomes)), ["BadValues", "CircularReferences", "values", "values in part"])

    def test_spoilt_files(self):
        source = random.Random(124)
        for _ in range(200):
            numbers = list(random_file(source, random_table(source)))
            place = source.randrange(len(numbers))
            numbers[place] = source.choice((0, 1, 2, 255, numbers[place] ^ 1, numbers[place] ^ 128))
            numbers = tuple(numbers)
            contents = slow_contents(numbers)
            if isinstance(contents[1], str):
                self.assertEqual(outcome(column_in, numbers, "x"), ("BadFile", *contents))
                self.assertEqual(outcome(answer_in, numbers, (None, "x", (("count",),))), ("BadFile", *contents))


class AnswerTests(unittest.TestCase):

    def test_example(self):
        self.assertEqual(answer_in(SPOILT, (None, None, (("sum", "a"),))), ((None, (11,)),))

    def test_no_columns(self):
        self.assertEqual(answer_in(SPOILT, (None, None, (("count",),))), ((None, (2,)),))
        self.assertEqual(answer_in(FAULTY, (("or", ()), None, (("count",),))), ((None, (0,)),))

    def test_columns_that_are_needed(self):
        query = (("is", "a", "=", "y"), "f", (("count",), ("max", "a")))
        self.assertEqual(answer_in(FAULTY, query), (("z", (1, "y")),))
        for name, expected in (("c", ("BadValues", "b", 0)), ("d", ("BadValues", "d", None)),
                               ("e", ("CircularReferences",))):
            self.assertEqual(outcome(answer_in, FAULTY, (None, "a", (("max", name),))), expected)
        # Faults come before circles, in the order of computing.
        self.assertEqual(outcome(answer_in, FAULTY, (None, "e", (("max", "c"),))), ("BadValues", "b", 0))
        self.assertEqual(outcome(answer_in, FAULTY, (None, "e", (("max", "d"),))), ("BadValues", "d", None))

    def test_conditions_that_cannot_change_the_answer(self):
        query = (("and", (("or", ()), ("is", "b", "=", 0))), None, (("count",),))
        self.assertEqual(outcome(answer_in, FAULTY, query), ("BadValues", "b", 0))

    def test_what_is_raised_first(self):
        wrong = (("is", "a", "=", "no"), "x", (("sum", "a"),))
        self.assertEqual(outcome(answer_in, FAULTY[:-1], wrong)[0], "BadFile")
        self.assertEqual(outcome(answer_in, (*FAULTY, 0), wrong), ("BadFile", len(FAULTY), "more"))
        with self.assertRaises(WrongCell) as caught:
            answer_in(FAULTY, (("is", "a", "=", "no"), "b", (("max", "x"),)))
        self.assertEqual(caught.exception.column, "a")
        with self.assertRaises(UnknownColumn) as caught:
            answer_in(FAULTY, (("is", "e", "=", 5), "x", (("sum", "a"),)))
        self.assertEqual(caught.exception.name, "x")
        with self.assertRaises(HasLabels) as caught:
            answer_in(FAULTY, (("is", "b", "=", 5), "e", (("sum", "a"),)))
        self.assertEqual(caught.exception.column, "a")

    def test_files_in_order(self):
        source = random.Random(164)
        for _ in range(80):
            table = random_table(source)
            numbers = random_file(source, table)
            for _ in range(3):
                query = random_query(source, table)
                self.assertEqual(answer_in(numbers, query), slow_answer(table, query))
        self.assertEqual(answer_in(pack(TRIPS), (None, None, (("min", "end"),))), ((None, (650,)),))

    def test_against_slow_parts(self):
        source = random.Random(165)
        outcomes = []
        for _ in range(300):
            rows, parts = random_contents(source)
            some = tuple((name, labels, (0,) * rows) for name, labels, _, _ in parts)
            query = random_query(source, some)
            expected = slow_part((rows, parts), slow_columns(some, query))
            found = outcome(answer_in, written((rows, parts)), query)
            if isinstance(expected[0], str):
                self.assertEqual(found, expected)
                outcomes.append(expected[0])
            else:
                self.assertEqual(found, slow_answer(expected, query))
                outcomes.append("answer")
        self.assertEqual(sorted(set(outcomes)), ["BadValues", "CircularReferences", "answer"])


if __name__ == "__main__":
    unittest.main()
