"""[44]: residuals and groups."""

import unittest

from refpack.residuals import groups_of, residuals_of

GREATEST = 1000000000


class GroupTests(unittest.TestCase):

    def test_examples(self):
        self.assertEqual(groups_of("lookup", 6, (8, 3, 5, 3, 5, 8)), ((1, 3), (2, 4), (0, 5)))
        self.assertEqual(groups_of("step", 3, None), ((0, 1, 2),))
        self.assertEqual(groups_of("frame", 0, None), ((),))
        self.assertEqual(groups_of("lookup", 0, ()), ())

    def test_one_group_of_all_rows(self):
        for many in (0, 1, 24):
            for kind, reference in (("frame", None), ("step", None), ("offset", tuple(range(many)))):
                self.assertEqual(groups_of(kind, many, reference), (tuple(range(many)),))

    def test_lookup(self):
        self.assertEqual(groups_of("lookup", 1, (7,)), ((0,),))
        self.assertEqual(groups_of("lookup", 3, (7, 7, 7)), ((0, 1, 2),))
        self.assertEqual(groups_of("lookup", 4, (0, -GREATEST, GREATEST, -GREATEST)), ((1, 3), (0,), (2,)))
        self.assertEqual(groups_of("lookup", 24, tuple(range(24, 0, -1))), tuple((row,) for row in range(23, -1, -1)))


class ResidualTests(unittest.TestCase):

    def test_examples(self):
        self.assertEqual(residuals_of("step", (5, 5, 5, 8, 8, 8), None), (5, 0, 0, 3, 0, 0))

    def test_without_rows(self):
        for kind, reference in (("frame", None), ("step", None), ("offset", ()), ("lookup", ())):
            self.assertEqual(residuals_of(kind, (), reference), ())

    def test_frame_and_lookup_leave_the_values(self):
        self.assertEqual(residuals_of("frame", (4, -2, 4), None), (4, -2, 4))
        self.assertEqual(residuals_of("lookup", (4, -2, 4), (1, 1, 2)), (4, -2, 4))

    def test_step(self):
        self.assertEqual(residuals_of("step", (7,), None), (7,))
        self.assertEqual(residuals_of("step", (-7, 3, 3, -1), None), (-7, 10, 0, -4))
        self.assertEqual(residuals_of("step", (-GREATEST, GREATEST), None), (-GREATEST, 2 * GREATEST))

    def test_offset(self):
        values = (25, 26, 29, 26, 95, 27)
        self.assertEqual(residuals_of("offset", values, (20, 21, 23, 20, 90, 22)), (5, 5, 6, 6, 5, 5))
        self.assertEqual(residuals_of("offset", (-GREATEST,), (GREATEST,)), (-2 * GREATEST,))


if __name__ == "__main__":
    unittest.main()
