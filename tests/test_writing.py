"""[120] to [123], [81]: headers, what is written, and the files of plans."""

import random
import unittest

from slow_files import ORDERS, SMALL, TRIPS, random_contents, random_plan, random_table, slow_contents

from refpack.errors import CircularReferences, UnknownColumn
from refpack.plans import choice_of, file_size, plan_sections
from refpack.sections import section_size
from refpack.tables import header_size
from refpack.writing import encode, header_of, written

LABELLED = (1, (("b", ("", "x"), ("dictionary", None, 1), ((0, 0, 1), ((0, 1),), (1,))),))


class HeaderTests(unittest.TestCase):

    def test_of_the_example(self):
        self.assertEqual(header_of((("a", None, (5, 6)),)), SMALL[:8])

    def test_of_orders(self):
        expected = (82, 80, 0, 6, 4, 3, *b"zip", 0, 4, *b"city", 2, 6, *b"Berlin", 6, *b"Munich",
                    7, *b"ordered", 0, 7, *b"shipped", 0)
        self.assertEqual(header_of(ORDERS), expected)
        self.assertEqual(len(header_of(ORDERS)), 48)

    def test_at_the_edges(self):
        self.assertEqual(header_of((("Z", ("",), ()),)), (82, 80, 0, 0, 1, 1, 90, 1, 0))
        name = "Z_0123456789abcdefgh"
        labels = (" ", "~", "12345678", "", "\"\\", "{}")
        expected = (82, 80, 0, 24, 1, 20, *name.encode(), 6, 1, 32, 1, 126, 8, *b"12345678", 0, 2, 34, 92, 2, 123, 125)
        self.assertEqual(header_of(((name, labels, (0,) * 24),)), expected)

    def test_values_do_not_matter(self):
        self.assertEqual(header_of((("a", None, (5, 6)),)), header_of((("a", None, (7, -8)),)))

    def test_sizes(self):
        source = random.Random(120)
        for _ in range(60):
            table = random_table(source, 6)
            self.assertEqual(len(header_of(table)), header_size(table))


class WrittenTests(unittest.TestCase):

    def test_examples(self):
        self.assertEqual(written((2, (("a", None, ("frame", None, 1), ((5,), (), (0, 1))),))), SMALL)
        self.assertEqual(written(LABELLED), (82, 80, 0, 1, 1, 1, 98, 2, 0, 1, 120, 2, 0, 1, 0, 3, 0, 0, 0, 0, 0, 0, 0,
                                             0, 0, 0, 0, 1, 0, 1, 0, 0, 0, 0, 0, 1, 128))

    def test_no_rows(self):
        self.assertEqual(written((0, (("a", None, ("step", None, 32), ((-1,), (), ())),))),
                         (82, 80, 0, 0, 1, 1, 97, 0, 1, 0, 32, 0, 1, 255, 255, 255, 255, 0, 0))

    def test_references_to_any_part(self):
        section = ((0,), (), ())
        contents = (0, (("a", None, ("offset", 0, 0), section), ("b", None, ("offset", 2, 0), section),
                        ("c", None, ("lookup", 1, 0), ((), (), ()))))
        offset = (0, 0, 1, 0, 0, 0, 0, 0, 0)
        self.assertEqual(written(contents), (82, 80, 0, 0, 3, 1, 97, 0, 1, 98, 0, 1, 99, 0, 3, 0, *offset, 3, 2,
                                             *offset, 4, 1, 0, 0, 0, 0, 0))

    def test_sizes_of_sections(self):
        source = random.Random(121)
        for _ in range(100):
            contents = random_contents(source)
            rows, parts = contents
            header = header_of(tuple((name, labels, (0,) * rows) for name, labels, _, _ in parts))
            numbers = written(contents)
            sizes = [section_size(recipe[2], section) for _, _, recipe, section in parts]
            self.assertEqual(len(numbers), len(header) + sum(sizes))
            self.assertEqual(numbers[:len(header)], header)
            self.assertTrue(all(0 <= number <= 255 for number in numbers))
            self.assertEqual(slow_contents(numbers), contents)


class EncodeTests(unittest.TestCase):

    def test_examples(self):
        self.assertEqual(encode((("a", None, (5, 6)),), (("frame", None, 1),)), SMALL)
        plan = (("frame", None, 4), ("offset", "planned", 2), ("offset", "start", 0))
        self.assertEqual(encode(TRIPS, plan)[26:], (
            0, 0, 4, 0, 1, 0, 0, 2, 88, 0, 0, 48, 245, 3, 0, 2, 0, 1, 0, 0, 0, 0, 0, 0, 78, 3, 1, 0, 0, 1, 0, 0, 0, 50,
            0, 0))

    def test_widths_that_are_greater_than_necessary(self):
        self.assertEqual(encode((("a", None, (5, 6)),), (("frame", None, 32),)),
                         (*SMALL[:10], 32, *SMALL[11:19], 0, 0, 0, 0, 0, 0, 0, 1))
        self.assertEqual(encode((("a", None, ()),), (("dictionary", None, 9),)),
                         (82, 80, 0, 0, 1, 1, 97, 0, 2, 0, 9, 0, 0, 0, 0))

    def test_sections_are_those_of_the_plan(self):
        source = random.Random(81)
        for _ in range(100):
            table = random_table(source, 6)
            plan = random_plan(source, table)
            numbers = encode(table, plan)
            self.assertEqual(numbers[:header_size(table)], header_of(table))
            self.assertEqual(len(numbers), file_size(table, plan))
            rows, parts = slow_contents(numbers)
            self.assertEqual(rows, len(table[0][2]))
            self.assertEqual(tuple((name, labels) for name, labels, _, _ in parts),
                             tuple(column[:2] for column in table))
            self.assertEqual(tuple(section for _, _, _, section in parts), plan_sections(table, plan))
            self.assertEqual([(kind, width) for _, _, (kind, _, width), _ in parts],
                             [(kind, width) for kind, _, width in plan])
            self.assertEqual(tuple(recipe[1] for _, _, recipe, _ in parts), choice_of(table, plan))

    def test_wrong_plans(self):
        with self.assertRaises(UnknownColumn) as caught:
            encode(TRIPS, (("offset", "planned", 1), ("offset", "Start", 1), ("lookup", "x", 1)))
        self.assertEqual(caught.exception.name, "Start")
        with self.assertRaises(CircularReferences):
            encode(TRIPS, (("offset", "end", 1), ("frame", None, 1), ("lookup", "planned", 1)))
        with self.assertRaises(CircularReferences):
            encode(TRIPS, (("frame", None, 1), ("lookup", "start", 1), ("frame", None, 1)))


if __name__ == "__main__":
    unittest.main()
