"""[20]: u16 and i32 fields."""

import unittest

from refpack.fields import i32_at, i32_numbers, u16_at, u16_numbers

LEAST = -2147483648
GREATEST = 2147483647


class U16Tests(unittest.TestCase):

    def test_numbers(self):
        for number, pair in ((0, (0, 0)), (255, (0, 255)), (256, (1, 0)), (300, (1, 44)), (65535, (255, 255))):
            self.assertEqual(u16_numbers(number), pair)
            self.assertEqual(u16_at(pair, 0), number)

    def test_every_u16(self):
        for number in range(65536):
            high, low = u16_numbers(number)
            self.assertTrue(0 <= high <= 255 and 0 <= low <= 255)
            self.assertEqual(256 * high + low, number)

    def test_anywhere_in_a_tuple(self):
        numbers = (7, 1, 44, 0)
        self.assertEqual([u16_at(numbers, place) for place in range(3)], [1793, 300, 11264])


class I32Tests(unittest.TestCase):

    def test_numbers(self):
        cases = (
            (0, (0, 0, 0, 0)), (1, (0, 0, 0, 1)), (-1, (255, 255, 255, 255)), (20100, (0, 0, 78, 132)),
            (-5, (255, 255, 255, 251)), (GREATEST, (127, 255, 255, 255)), (LEAST, (128, 0, 0, 0)),
            (LEAST + 1, (128, 0, 0, 1)), (1000000000, (59, 154, 202, 0)), (-1000000000, (196, 101, 54, 0)),
            (16909060, (1, 2, 3, 4)), (-65536, (255, 255, 0, 0)),
        )
        for number, numbers in cases:
            self.assertEqual(i32_numbers(number), numbers)
            self.assertEqual(i32_at(numbers, 0), number)

    def test_agrees_with_python(self):
        for number in range(LEAST, GREATEST + 1, 65521 * 7):
            numbers = i32_numbers(number)
            self.assertEqual(numbers, tuple(number.to_bytes(4, "big", signed=True)))
            self.assertEqual(i32_at(numbers, 0), number)

    def test_anywhere_in_a_tuple(self):
        numbers = (200, *i32_numbers(LEAST), *i32_numbers(GREATEST), *i32_numbers(-5), 200)
        self.assertEqual([i32_at(numbers, place) for place in (1, 5, 9)], [LEAST, GREATEST, -5])
        self.assertEqual(i32_at((0, 1, 2, 3, 4), 1), 16909060)
        self.assertEqual(i32_at((255, 0, 0, 0, 9), 1), 9)


if __name__ == "__main__":
    unittest.main()
