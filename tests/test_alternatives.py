"""[134]: the alternatives of each column."""

import random
import unittest

from slow_files import ORDERS, TRIPS, random_table
from slow_plans import SlowPlans

from refpack.alternatives import alternatives
from refpack.packing import least_size
from refpack.recipes import best_recipe
from refpack.tables import header_size


class AlternativeTests(unittest.TestCase):

    def test_examples(self):
        found = alternatives(TRIPS)
        self.assertEqual(found[0], (
            (None, "frame", 4, 13, 62), ("start", "offset", 2, 12, 63), ("end", "offset", 2, 12, 63)))
        self.assertEqual(found[2], (
            (None, "frame", 5, 14, 63), ("planned", "offset", 2, 12, 62), ("start", "offset", 0, 11, 62)))
        self.assertEqual(len(found), 3)

    def test_the_column_between(self):
        self.assertEqual([row[0] for row in alternatives(TRIPS)[1]], [None, "planned", "end"])

    def test_one_column(self):
        self.assertEqual(alternatives((("a", None, (5, 6)),)), (((None, "frame", 1, 12, 20),),))

    def test_no_rows(self):
        table = (("a", None, ()), ("b", ("x",), ()))
        size = header_size(table) + 14
        self.assertEqual(alternatives(table), (
            ((None, "dictionary", 0, 7, size), ("b", "lookup", 0, 7, size)),
            ((None, "dictionary", 0, 7, size), ("a", "lookup", 0, 7, size))))

    def test_orders(self):
        found = alternatives(ORDERS)
        self.assertEqual(found[0][0], (None, *best_recipe(ORDERS[0][2], None), 107))
        self.assertIn(("city", "lookup", 2, 17, 103), found[0])
        self.assertEqual(found[3][3], ("ordered", "offset", 1, 12, 103))

    def test_against_all_plans(self):
        source = random.Random(134)
        for _ in range(25):
            table = random_table(source)
            slow = SlowPlans(table)
            names = [column[0] for column in table]
            found = alternatives(table)
            self.assertEqual(len(found), len(table))
            for column, rows in enumerate(found):
                expected = [None, *(name for name in names if name != names[column])]
                self.assertEqual([row[0] for row in rows], expected)
                for reference, kind, width, size, total in rows:
                    place = None if reference is None else names.index(reference)
                    least, tied = slow.tied[column, place]
                    self.assertEqual((kind, width, size), (*tied[0], least))
                    totals = [slow.total(choice) for choice in slow.choices if choice[column] == place]
                    self.assertEqual(total, header_size(table) + min(totals))
                    self.assertEqual(total, least_size(table, fixed=((names[column], reference),)))


if __name__ == "__main__":
    unittest.main()
