"""[171], [172], [175], [177]: conditions, the rows that satisfy them, what is raised, conditions without "not"."""

import random
import unittest

from slow_files import ORDERS, random_table
from slow_queries import COMPARISONS, names_in, random_condition, slow_holds

from refpack.conditions import satisfies, selected_rows, without_not
from refpack.errors import UnknownColumn, WrongCell

ALL, NONE = ("and", ()), ("or", ())
SIZES = (("size", ("small", "medium", "large"), (2, 0, 1, 1)), ("n", None, (-5, 0, 5, 1000000000)))
EMPTY = (("size", ("small",), ()), ("n", None, ()))
OPPOSITE = {"=": "!=", "!=": "=", "<": ">=", ">=": "<", ">": "<=", "<=": ">"}


def is_(name, comparison, cell):
    return "is", name, comparison, cell


def parts_of(condition):
    """All conditions that occur in it, as often as they occur."""
    if condition[0] == "is":
        return [condition]
    inner = (condition[1],) if condition[0] == "not" else condition[1]
    return [condition, *(part for some in inner for part in parts_of(some))]


class SatisfiesTests(unittest.TestCase):

    def test_examples(self):
        where = ("and", (is_("city", "=", "Berlin"), ("not", is_("zip", "<", 10117))))
        self.assertEqual(selected_rows(ORDERS, where), (1, 5))
        with self.assertRaises(WrongCell) as caught:
            satisfies(ORDERS, is_("city", "=", "Bonn"), 0)
        self.assertEqual(caught.exception.column, "city")

    def test_comparisons(self):
        expected = {"=": (1,), "!=": (0, 2, 3), "<": (0,), "<=": (0, 1), ">": (2, 3), ">=": (1, 2, 3)}
        for comparison, rows in expected.items():
            self.assertEqual(selected_rows(SIZES, is_("n", comparison, 0)), rows)

    def test_labels_are_compared_by_their_places(self):
        expected = {"=": (2, 3), "!=": (0, 1), "<": (1,), "<=": (1, 2, 3), ">": (0,), ">=": (0, 2, 3)}
        for comparison, rows in expected.items():
            self.assertEqual(selected_rows(SIZES, is_("size", comparison, "medium")), rows)
        self.assertEqual(selected_rows(SIZES, is_("size", ">", "small")), (0, 2, 3))

    def test_true_and_false(self):
        for row in range(4):
            for comparison, compares in COMPARISONS.items():
                self.assertIs(satisfies(SIZES, is_("n", comparison, 5), row), compares(SIZES[1][2][row], 5))
            self.assertIs(satisfies(SIZES, ALL, row), True)
            self.assertIs(satisfies(SIZES, NONE, row), False)

    def test_and_and_or_of_no_conditions(self):
        self.assertEqual(selected_rows(SIZES, ALL), (0, 1, 2, 3))
        self.assertEqual(selected_rows(SIZES, NONE), ())
        self.assertEqual(selected_rows(SIZES, ("not", ALL)), ())
        self.assertEqual(selected_rows(SIZES, ("not", NONE)), (0, 1, 2, 3))
        self.assertEqual(selected_rows(SIZES, ("and", (is_("n", "=", 0), NONE))), ())
        self.assertEqual(selected_rows(SIZES, ("or", (is_("n", "=", 0), ALL))), (0, 1, 2, 3))

    def test_not_before_each_of_the_four(self):
        negative = is_("n", "<", 0)
        for condition, rows in ((negative, (1, 2, 3)), (("not", negative), (0,)),
                                (("and", (negative, is_("size", "=", "large"))), (1, 2, 3)),
                                (("or", (negative, is_("size", "=", "small"))), (2, 3))):
            self.assertEqual(selected_rows(SIZES, ("not", condition)), rows)

    def test_without_a_condition(self):
        self.assertEqual(selected_rows(SIZES, None), (0, 1, 2, 3))
        self.assertEqual(selected_rows(EMPTY, None), ())
        self.assertEqual(selected_rows(EMPTY, ALL), ())

    def test_6_deep(self):
        condition = is_("n", "=", 5)
        for word in ("not", "and", "or", "not", "and"):
            condition = (word, condition) if word == "not" else (word, (condition,))
        self.assertEqual(selected_rows(SIZES, condition), (2,))
        self.assertEqual(selected_rows(SIZES, ("not", ("or", (condition, ("not", condition))))), ())

    def test_30_parts(self):
        parts = tuple(is_("n", ">", number) for number in range(-20, 9))
        self.assertEqual(len(parts_of(("or", parts))), 30)
        self.assertEqual(selected_rows(SIZES, ("or", parts)), (0, 1, 2, 3))
        self.assertEqual(selected_rows(SIZES, ("and", parts)), (3,))

    def test_against_slow_conditions(self):
        source = random.Random(171)
        for _ in range(200):
            table = random_table(source)
            condition = random_condition(source, table)
            rows = tuple(row for row in range(len(table[0][2])) if slow_holds(table, condition, row))
            self.assertEqual(selected_rows(table, condition), rows)
            for row in range(len(table[0][2])):
                self.assertIs(satisfies(table, condition, row), row in rows)


class RaisingTests(unittest.TestCase):

    def check_raised(self, error, name, condition, table=SIZES):
        attribute = "name" if error is UnknownColumn else "column"
        for call in (lambda: satisfies(table, condition, 1), lambda: selected_rows(table, condition)):
            if table is EMPTY:
                call = lambda: selected_rows(table, condition)
            with self.assertRaises(error) as caught:
                call()
            self.assertEqual(getattr(caught.exception, attribute), name)

    def test_cells(self):
        for name, cell in (("n", "small"), ("n", 1000000001), ("n", -1000000001), ("n", 10 ** 29), ("n", ""),
                           ("size", 0), ("size", "Small"), ("size", ""), ("size", "huge")):
            for comparison in COMPARISONS:
                self.check_raised(WrongCell, name, is_(name, comparison, cell))
        self.assertEqual(selected_rows(SIZES, is_("n", "<=", -1000000000)), ())
        self.assertEqual(selected_rows(SIZES, is_("n", "<=", 1000000000)), (0, 1, 2, 3))

    def test_the_column_comes_before_the_cell(self):
        self.check_raised(UnknownColumn, "N", is_("N", "=", "no cell"))

    def test_from_left_to_right(self):
        wrong, unknown = is_("n", "=", "x"), is_("x", "=", 0)
        self.check_raised(WrongCell, "n", ("and", (is_("n", "=", 0), ("not", wrong), unknown)))
        self.check_raised(UnknownColumn, "x", ("or", (NONE, ("and", (unknown, wrong)), wrong)))
        self.check_raised(WrongCell, "n", ("or", (("or", (("not", wrong),)), unknown, is_("size", "=", 7))))

    def test_parts_that_need_not_be_looked_at(self):
        wrong = is_("size", "=", "huge")
        self.check_raised(WrongCell, "size", ("and", (NONE, wrong)))
        self.check_raised(WrongCell, "size", ("or", (ALL, wrong)))
        self.check_raised(UnknownColumn, "x", ("or", (ALL, ("and", (NONE, is_("x", "=", 0))))))

    def test_no_rows(self):
        self.check_raised(WrongCell, "size", is_("size", "=", "large"), EMPTY)
        self.check_raised(UnknownColumn, "x", ("not", is_("x", "=", "large")), EMPTY)
        self.assertEqual(selected_rows(EMPTY, is_("size", "=", "small")), ())


class WithoutNotTests(unittest.TestCase):

    def test_example(self):
        self.assertEqual(without_not(("not", ("and", (is_("zip", "<", 5), ("not", ("or", ())))))),
                         ("or", (is_("zip", ">=", 5), ("or", ()))))

    def test_without_any(self):
        for condition in (is_("a", "=", 5), ALL, NONE, ("and", (is_("a", "=", 5), ("or", (ALL, is_("b", "<", "x")))))):
            self.assertEqual(without_not(condition), condition)

    def test_comparisons(self):
        for comparison, opposite in OPPOSITE.items():
            self.assertEqual(without_not(("not", is_("a", comparison, 5))), is_("a", opposite, 5))
            self.assertEqual(without_not(("not", ("not", is_("a", comparison, 5)))), is_("a", comparison, 5))

    def test_not_before_each_of_the_four(self):
        one, two = is_("a", "=", 5), is_("b", ">", "x")
        self.assertEqual(without_not(("not", ("and", (one, two)))), ("or", (is_("a", "!=", 5), is_("b", "<=", "x"))))
        self.assertEqual(without_not(("not", ("or", (one, two)))), ("and", (is_("a", "!=", 5), is_("b", "<=", "x"))))
        self.assertEqual(without_not(("not", ALL)), NONE)
        self.assertEqual(without_not(("not", NONE)), ALL)
        self.assertEqual(without_not(("and", (("not", one), two))), ("and", (is_("a", "!=", 5), two)))
        self.assertEqual(without_not(("not", ("not", ("and", (one, ("not", two)))))),
                         ("and", (one, is_("b", "<=", "x"))))
        self.assertEqual(without_not(("not", ("not", ("not", one)))), is_("a", "!=", 5))

    def test_the_same_rows(self):
        source = random.Random(177)
        for _ in range(200):
            table = random_table(source)
            condition = random_condition(source, table)
            found = without_not(condition)
            self.assertNotIn("not", [part[0] for part in parts_of(found)])
            self.assertEqual(selected_rows(table, found), selected_rows(table, condition))
            self.assertEqual(names_in(found), names_in(condition))
            self.assertEqual(without_not(found), found)
            opposite = without_not(("not", condition))
            rows = selected_rows(table, condition) + selected_rows(table, opposite)
            self.assertEqual(sorted(rows), list(range(len(table[0][2]))))


if __name__ == "__main__":
    unittest.main()
