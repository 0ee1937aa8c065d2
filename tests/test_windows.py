"""[30] to [33]: windows, bases, covers, best starts, spreads, digits and frequencies."""

import random
import unittest

from refpack.windows import (
    base_of, best_starts, cover_of, covered_places, covers_of, digits_of, frequencies, most_frequent, spread_of,
)

LEVELS = (20, 21, 23, 20, 90, 22)
BOUND = 8000000000


def covered(values, start, width):
    return [place for place, value in enumerate(values) if start <= value <= start + 2 ** width - 1]


def random_values(source):
    reach = source.choice((1, 3, 10, 100, BOUND))
    return tuple(source.randint(-reach, reach) for _ in range(source.randrange(13)))


class WindowTests(unittest.TestCase):

    def test_table_of_the_document(self):
        for width, base, cover in ((0, 20, 2), (1, 20, 3), (2, 20, 5), (6, 20, 5), (7, 20, 6)):
            self.assertEqual(base_of(LEVELS, width), base)
            self.assertEqual(cover_of(LEVELS, width), cover)
        self.assertEqual(covers_of(LEVELS), (2, 3, 5, 5, 5, 5, 5, 6))

    def test_two_best_starts(self):
        values = (50, 51, 11, 10)
        self.assertEqual(base_of(values, 1), 10)
        self.assertEqual(best_starts(values, 1), (10, 50))
        self.assertEqual(covered_places(values, 1), (2, 3))
        self.assertEqual(cover_of(values, 1), 2)

    def test_without_elements(self):
        for width in (0, 1, 32, 40):
            self.assertEqual(base_of((), width), 0)
            self.assertEqual(cover_of((), width), 0)
            self.assertEqual(best_starts((), width), ())
            self.assertEqual(covered_places((), width), ())
        self.assertEqual(covers_of(()), (0,))
        self.assertEqual(spread_of(()), 0)
        self.assertEqual(frequencies(()), ())
        self.assertEqual(most_frequent((), 3), ())

    def test_equal_elements(self):
        for values in ((7,), (7, 7, 7), (-7, -7), (0,)):
            for width in (0, 1, 40):
                self.assertEqual(base_of(values, width), values[0])
                self.assertEqual(cover_of(values, width), len(values))
                self.assertEqual(best_starts(values, width), (values[0],))
                self.assertEqual(covered_places(values, width), tuple(range(len(values))))
            self.assertEqual(covers_of(values), (len(values),))
        self.assertEqual(best_starts((3, 1, 3, 1), 0), (1, 3))
        self.assertEqual(best_starts((3, 1, 3), 0), (3,))

    def test_ends_of_a_window(self):
        self.assertEqual(cover_of((0, 3), 2), 2)
        self.assertEqual(cover_of((0, 4), 2), 1)
        self.assertEqual(covered_places((0, 4, 3), 2), (0, 2))
        self.assertEqual(covered_places((4, 0, 3, -2), 2), (1, 3))
        self.assertEqual(best_starts((4, 0, 3, -2), 2), (-2, 0, 3))

    def test_negative_elements_and_the_greatest_width(self):
        values = (-BOUND, BOUND, -5, -6)
        self.assertEqual(base_of(values, 0), -BOUND)
        self.assertEqual(base_of(values, 1), -6)
        self.assertEqual(base_of(values, 40), -BOUND)
        self.assertEqual(cover_of(values, 40), 4)
        self.assertEqual(best_starts(values, 40), (-BOUND,))
        self.assertEqual(covers_of(values)[33:], (3, 4))
        self.assertEqual(len(covers_of(values)), 35)

    def test_against_all_windows(self):
        source = random.Random(31)
        for _ in range(400):
            values = random_values(source)
            for width in (0, 1, 2, 3, 5, 8, 34, 40):
                starts = sorted(set(values))
                most = max([len(covered(values, start, width)) for start in starts], default=0)
                best = tuple(start for start in starts if len(covered(values, start, width)) == most)
                self.assertEqual(cover_of(values, width), most)
                self.assertEqual(best_starts(values, width), best)
                self.assertEqual(base_of(values, width), best[0] if best else 0)
                places = tuple(covered(values, best[0], width)) if best else ()
                self.assertEqual(covered_places(values, width), places)

    def test_no_window_that_starts_elsewhere_covers_more(self):
        source = random.Random(32)
        for _ in range(60):
            values = tuple(source.randint(-12, 12) for _ in range(source.randrange(9)))
            for width in range(6):
                most = max(len(covered(values, start, width)) for start in range(-50, 20))
                self.assertEqual(cover_of(values, width), most)

    def test_covers_of_all_widths(self):
        source = random.Random(33)
        for _ in range(200):
            values = random_values(source)
            covers = covers_of(values)
            self.assertEqual(len(covers), digits_of(spread_of(values)) + 1)
            self.assertEqual(covers, tuple(cover_of(values, width) for width in range(len(covers))))
            self.assertEqual(covers[-1], len(values))


class SpreadTests(unittest.TestCase):

    def test_spread(self):
        self.assertEqual(spread_of((5,)), 0)
        self.assertEqual(spread_of((5, -5, 0)), 10)
        self.assertEqual(spread_of(LEVELS), 70)
        self.assertEqual(spread_of((-BOUND, BOUND)), 2 * BOUND)

    def test_digits(self):
        self.assertEqual([digits_of(number) for number in range(9)], [0, 1, 2, 2, 3, 3, 3, 3, 4])
        for width in range(1, 100):
            self.assertEqual(digits_of(2 ** width - 1), width)
            self.assertEqual(digits_of(2 ** width), width + 1)


class FrequencyTests(unittest.TestCase):

    def test_frequencies(self):
        self.assertEqual(frequencies((8, 3, 5, 3, 5, 8)), ((3, 2), (5, 2), (8, 2)))
        self.assertEqual(frequencies((1, -1, 1, 0, 1)), ((-1, 1), (0, 1), (1, 3)))
        self.assertEqual(frequencies((4, 4, 4)), ((4, 3),))

    def test_most_frequent(self):
        values = (8, 3, 5, 3, 5, 8)
        self.assertEqual(most_frequent(values, 2), (3, 5))
        self.assertEqual(most_frequent(values, 0), ())
        self.assertEqual(most_frequent(values, 3), (3, 5, 8))
        self.assertEqual(most_frequent(values, 2 ** 32), (3, 5, 8))

    def test_more_frequent_before_lesser(self):
        values = (9, 1, 9, 2, 2, 9, -4)
        for many, chosen in ((1, (9,)), (2, (2, 9)), (3, (-4, 2, 9)), (4, (-4, 1, 2, 9)), (5, (-4, 1, 2, 9))):
            self.assertEqual(most_frequent(values, many), chosen)

    def test_against_sorting(self):
        source = random.Random(34)
        for _ in range(300):
            values = tuple(source.randint(-4, 4) for _ in range(source.randrange(15)))
            different = sorted(set(values))
            self.assertEqual(frequencies(values), tuple((value, values.count(value)) for value in different))
            ranked = sorted(different, key=lambda value: (-values.count(value), value))
            for many in (*range(len(different) + 2), 2 ** 32):
                self.assertEqual(most_frequent(values, many), tuple(sorted(ranked[:many])))


if __name__ == "__main__":
    unittest.main()
