"""[21]: packed codes."""

import random
import unittest

from refpack.codes import packed_codes, packed_length, unpacked_codes


def packed_by_digits(codes, width):
    """The packed codes, by a string of binary digits."""
    digits = "".join(format(code, "b").zfill(width) for code in codes) if width else ""
    digits += "0" * (-len(digits) % 8)
    return tuple(int(digits[at:at + 8], 2) for at in range(0, len(digits), 8))


class CodeTests(unittest.TestCase):

    def test_examples(self):
        self.assertEqual(packed_codes((0, 2, 0, 0, 0, 2), 2), (32, 32))
        self.assertEqual(unpacked_codes((32, 32), 6, 2), (0, 2, 0, 0, 0, 2))
        self.assertIsNone(unpacked_codes((32, 33), 6, 2))
        self.assertEqual(packed_codes((1, 4294967295), 32), (0, 0, 0, 1, 255, 255, 255, 255))
        self.assertEqual(unpacked_codes((0, 0, 0, 1, 255, 255, 255, 255), 2, 32), (1, 4294967295))

    def test_length(self):
        cases = (
            (0, 0, 0), (0, 32, 0), (100, 0, 0), (100, 32, 400), (1, 1, 1), (8, 1, 1), (9, 1, 2), (6, 2, 2), (3, 3, 2),
            (24, 31, 93), (5, 8, 5),
        )
        for many, width, length in cases:
            self.assertEqual(packed_length(many, width), length, (many, width))
        for many in range(101):
            for width in range(33):
                length = packed_length(many, width)
                self.assertTrue(0 <= 8 * length - many * width < 8, (many, width))

    def test_no_codes_and_no_width(self):
        for width in range(33):
            self.assertEqual(packed_codes((), width), ())
            self.assertEqual(unpacked_codes((), 0, width), ())
        for many in (0, 1, 7, 100):
            self.assertEqual(packed_codes((0,) * many, 0), ())
            self.assertEqual(unpacked_codes((), many, 0), (0,) * many)

    def test_there_and_back(self):
        source = random.Random(21)
        for width in range(33):
            for many in (1, 2, 3, 5, 8, 17, 24, 100):
                codes = tuple(source.randrange(1 << width) for _ in range(many))
                numbers = packed_codes(codes, width)
                self.assertEqual(numbers, packed_by_digits(codes, width))
                self.assertEqual(len(numbers), packed_length(many, width))
                self.assertEqual(unpacked_codes(numbers, many, width), codes)

    def test_both_ends_of_each_width(self):
        for width in range(33):
            codes = (0, (1 << width) - 1, 0)
            self.assertEqual(unpacked_codes(packed_codes(codes, width), 3, width), codes)

    def test_each_unused_bit(self):
        for many, width in ((1, 1), (6, 2), (3, 3), (5, 7), (3, 31), (1, 4), (9, 1)):
            numbers = packed_codes(((1 << width) - 1,) * many, width)
            unused = 8 * len(numbers) - many * width
            for bit in range(8):
                spoilt = (*numbers[:-1], numbers[-1] ^ (1 << bit))
                if bit < unused:
                    self.assertIsNone(unpacked_codes(spoilt, many, width), (many, width, bit))
                else:
                    self.assertEqual(packed_codes(unpacked_codes(spoilt, many, width), width), spoilt)

    def test_without_unused_bits_everything_is_read(self):
        self.assertEqual(unpacked_codes((255,), 8, 1), (1,) * 8)
        self.assertEqual(unpacked_codes((1, 2, 3, 4), 4, 8), (1, 2, 3, 4))


if __name__ == "__main__":
    unittest.main()
