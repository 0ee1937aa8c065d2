"""[60] to [63], [6]: columns, tables, cells, rows, flaws and names."""

import unittest

from refpack.errors import UnknownColumn, WrongCell
from refpack.tables import cell_of, flaw_of, heads_of, place_of, rows_of, table_of, value_of

GREATEST = 1000000000
SMALL = (("a", None, (1, 2)), ("b", ("no", "yes"), (0, 1)))
EMPTY = (("a", None, ()), ("b", ("no", "yes"), ()))


def named(name):
    return ((name, None, (1,)),)


def labelled(labels, values=()):
    return (("a", labels, values),)


class FlawTests(unittest.TestCase):

    def test_examples(self):
        self.assertEqual(flaw_of((("a", None, (1, 2)), ("b", ("no", "yes"), (0, 2)))), ("value", 1))
        self.assertEqual(flaw_of((("a", None, (1, 2)), ("b", None, (1,)), ("a", None, (3, 4)))), ("duplicate name", 2))

    def test_tables(self):
        six = tuple((name, None, tuple(range(24))) for name in "abcdef")
        for table in (SMALL, EMPTY, six, named("Zip"), six[:1]):
            self.assertIsNone(flaw_of(table))
        self.assertIsNone(flaw_of((("Zip", None, (1,)), ("zip", None, (1,)))))

    def test_columns(self):
        self.assertEqual(flaw_of(()), ("columns", None))
        for many in (7, 8):
            self.assertEqual(flaw_of(tuple((name, None, ()) for name in "abcdefgh"[:many])), ("columns", None))
        self.assertEqual(flaw_of((("", (), (5,)),) * 7), ("columns", None))

    def test_names(self):
        for name in ("a", "Z", "z", "A", "a_", "A0_9z", "a" * 20, "x" + "_" * 19):
            self.assertIsNone(flaw_of(named(name)), name)
        wrong = ("", "a" * 21, "_a", "9a", " a", "a b", "a-b", "a.", "@", "[a", "`", "{", "a@", "a[", "a`", "a{", "a/",
                 "a:", "a~", "a" * 40)
        for name in wrong:
            self.assertEqual(flaw_of(named(name)), ("name", 0), name)

    def test_number_of_labels(self):
        self.assertEqual(flaw_of(labelled(())), ("labels", 0))
        self.assertEqual(flaw_of(labelled(tuple("abcdefg"))), ("labels", 0))
        self.assertEqual(flaw_of(labelled(("a",) * 8)), ("labels", 0))
        self.assertIsNone(flaw_of(labelled(("x",))))
        self.assertIsNone(flaw_of(labelled(tuple("abcdef"), (0, 5))))

    def test_labels(self):
        self.assertIsNone(flaw_of(labelled(("", "12345678", " ~"))))
        self.assertEqual(flaw_of(labelled(("a", "123456789"))), ("label", 0))
        self.assertEqual(flaw_of(labelled(("a", "a", "123456789"))), ("label", 0))
        self.assertEqual(flaw_of(labelled(("a", "b", "a"), (7,))), ("duplicate label", 0))
        self.assertEqual(flaw_of(labelled(("", ""))), ("duplicate label", 0))
        self.assertIsNone(flaw_of(labelled(("a", "A"))))

    def test_values(self):
        self.assertIsNone(flaw_of(labelled(None, (GREATEST, -GREATEST, 0))))
        for value in (GREATEST + 1, -GREATEST - 1, 10 ** 29, -10 ** 29):
            self.assertEqual(flaw_of(labelled(None, (0, value))), ("value", 0))
        self.assertIsNone(flaw_of(labelled(("x", "y"), (0, 1))))
        for value in (-1, 2, GREATEST):
            self.assertEqual(flaw_of(labelled(("x", "y"), (0, value))), ("value", 0))

    def test_lengths_and_rows(self):
        self.assertEqual(flaw_of((("a", None, (1,)), ("b", None, (1,)), ("c", None, ()))), ("length", 2))
        self.assertEqual(flaw_of((("a", None, ()), ("b", None, (1,)), ("c", None, (1, 2)))), ("length", 1))
        self.assertIsNone(flaw_of(labelled(None, (0,) * 24)))
        for many in (25, 30):
            self.assertEqual(flaw_of((("a", None, (0,) * many), ("b", None, (1,) * many))), ("rows", None))

    def test_duplicate_name(self):
        self.assertEqual(flaw_of((("a", None, ()), ("b", None, ()), ("b", None, ()), ("a", None, ()))),
                         ("duplicate name", 2))

    def test_which_flaw_comes_first_in_a_column(self):
        labels = ("a", "a", "123456789")
        steps = (
            (("9", (), (9,)), "name"), (("a", (), (9,)), "labels"), (("a", labels, (9,)), "label"),
            (("a", labels[:2], (9,)), "duplicate label"), (("a", labels[:1], (9,)), "value"),
        )
        for column, reason in steps:
            self.assertEqual(flaw_of((column,)), (reason, 0))

    def test_which_flaw_comes_first_in_a_table(self):
        good = ("a", None, (1,))
        self.assertEqual(flaw_of((good, ("b", None, (GREATEST + 1,)), ("9", None, (1,)))), ("value", 1))
        self.assertEqual(flaw_of((good, ("a", None, (1,)), ("9", None, (1,)))), ("name", 2))
        self.assertEqual(flaw_of((good, ("b", None, ()), ("c", None, (GREATEST + 1,)))), ("value", 2))
        self.assertEqual(flaw_of((good, ("b", None, ()), ("a", None, (1,)))), ("duplicate name", 2))
        long = (0,) * 25
        self.assertEqual(flaw_of((("a", None, long), ("b", None, (1,)))), ("length", 1))
        self.assertEqual(flaw_of((("a", None, (1,)), ("b", None, long))), ("length", 1))


class NameTests(unittest.TestCase):

    def test_heads(self):
        self.assertEqual(heads_of(SMALL), (("a", None), ("b", ("no", "yes"))))
        self.assertEqual(heads_of(EMPTY), heads_of(SMALL))

    def test_places(self):
        table = (("zip", None, ()), ("Zip", None, ()), ("z", None, ()))
        self.assertEqual([place_of(table, name) for name in ("zip", "Zip", "z")], [0, 1, 2])

    def test_unknown_column(self):
        for name in ("A", "", "ab", "no", "a "):
            with self.assertRaises(UnknownColumn) as caught:
                place_of(SMALL, name)
            self.assertEqual(caught.exception.name, name)


class CellTests(unittest.TestCase):

    def test_cells_without_labels(self):
        column = ("a", None, (5, 7))
        for value in (5, 0, -3, GREATEST, -GREATEST):
            self.assertEqual(cell_of(column, value), value)
            self.assertEqual(value_of(column, value), value)

    def test_cells_with_labels(self):
        column = ("b", ("no", "", "yes"), (0,))
        for value, cell in enumerate(("no", "", "yes")):
            self.assertEqual(cell_of(column, value), cell)
            self.assertEqual(value_of(column, cell), value)

    def test_wrong_cells(self):
        for cell in (GREATEST + 1, -GREATEST - 1, 10 ** 29, "5", "", "a"):
            with self.assertRaises(WrongCell) as caught:
                value_of(("a", None, (5,)), cell)
            self.assertEqual(caught.exception.column, "a")
        for cell in (0, 1, "maybe", "No", "", "ye", "yes "):
            with self.assertRaises(WrongCell) as caught:
                value_of(("b", ("no", "yes"), (0, 1)), cell)
            self.assertEqual(caught.exception.column, "b")


class RowTests(unittest.TestCase):

    def test_rows(self):
        self.assertEqual(rows_of(SMALL), ((1, "no"), (2, "yes")))
        self.assertEqual(rows_of(EMPTY), ())

    def test_table_of(self):
        self.assertEqual(table_of((("a", None), ("b", ("no", "yes"))), ((7, "yes"),)),
                         (("a", None, (7,)), ("b", ("no", "yes"), (1,))))
        for table in (SMALL, EMPTY, (("x", ("", "q"), (1,) * 24),)):
            self.assertEqual(table_of(heads_of(table), rows_of(table)), table)

    def test_the_first_wrong_cell_is_told(self):
        heads = (("a", None), ("b", ("no", "yes")), ("c", None))
        cases = (
            (((1, "no", 1), (1, "maybe", "x")), "b"), (((1, "no", "x"), ("x", "no", 1)), "c"),
            ((("x", 5, 1),), "a"), (((1, "no", GREATEST + 1),), "c"), (((1, 0, 1),), "b"),
        )
        for rows, name in cases:
            with self.assertRaises(WrongCell) as caught:
                table_of(heads, rows)
            self.assertEqual(caught.exception.column, name)


if __name__ == "__main__":
    unittest.main()
