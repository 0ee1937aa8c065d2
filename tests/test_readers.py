"""[164], [214]: readers that are fed a file in pieces."""

import random
import unittest

from slow_files import ORDERS, SMALL, random_contents, random_file, random_table, slow_contents

from refpack.errors import BadFile, BadValues, CircularReferences
from refpack.packing import pack
from refpack.reading import listed, read_file
from refpack.readers import Reader
from refpack.writing import written


def pieces_of(source, numbers):
    """The integers, cut into pieces; some of them have nothing in them."""
    cuts = sorted(source.choices(range(len(numbers) + 1), k=source.choice((0, 1, 4, 12))))
    return [numbers[start:end] for start, end in zip((0, *cuts), (*cuts, len(numbers)))]


def arrived(numbers, many):
    """The number of sections that lie within so many integers of a file that can be read."""
    return sum(row[6] + row[7] <= many for row in listed(numbers))


class ExampleTests(unittest.TestCase):

    def test_of_the_interface(self):
        reader = Reader()
        self.assertEqual(reader.feed((82, 80, 0, 2, 1, 1, 97, 0, 0, 0, 1, 0, 1, 0, 0)), 0)
        with self.assertRaises(BadFile) as caught:
            reader.finish()
        self.assertEqual((caught.exception.place, caught.exception.reason), (15, "end"))
        self.assertEqual(reader.feed((0, 5, 0, 0, 64)), 1)
        self.assertEqual(reader.finish(), ((("a", None, (5, 6)),), (("frame", None, 1),)))
        with self.assertRaises(BadFile) as caught:
            reader.feed((1,))
        self.assertEqual((caught.exception.place, caught.exception.reason), (20, "more"))
        self.assertEqual(len(reader), 20)


class FeedTests(unittest.TestCase):

    def check_fault(self, call, place, reason):
        with self.assertRaises(BadFile) as caught:
            call()
        self.assertEqual((caught.exception.place, caught.exception.reason), (place, reason))

    def test_nothing(self):
        reader = Reader()
        self.assertEqual(len(reader), 0)
        self.check_fault(reader.finish, 0, "end")
        self.assertEqual(reader.feed(()), 0)
        self.assertEqual(len(reader), 0)
        self.check_fault(reader.finish, 0, "end")

    def test_integer_by_integer(self):
        numbers = pack(ORDERS)
        reader = Reader()
        for many, number in enumerate(numbers, 1):
            self.assertEqual(reader.feed((number,)), arrived(numbers, many))
            self.assertEqual(len(reader), many)
            if many < len(numbers):
                self.check_fault(reader.finish, many, "end")
        self.assertEqual(reader.finish(), read_file(numbers))
        self.assertEqual(arrived(numbers, len(numbers)), 4)

    def test_pieces_with_nothing_in_them(self):
        reader = Reader()
        for piece, expected in (((), 0), (SMALL[:1], 0), ((), 0), (SMALL[1:], 1), ((), 1), ((), 1)):
            self.assertEqual(reader.feed(piece), expected)
        self.assertEqual(reader.finish(), read_file(SMALL))

    def test_sections_without_codes(self):
        # Without rows, each section has arrived with its number of patches: 11 integers, then 7.
        numbers = written((0, (("a", None, ("frame", None, 7), ((1,), (), ())), ("b", None, ("lookup", 0, 3),
                                                                             ((), (), ())))))
        reader = Reader()
        counts = [reader.feed((number,)) for number in numbers]
        self.assertEqual(counts, [0] * (11 + 10) + [1] * 7 + [2])

    def test_a_piece_with_a_fault_is_not_added(self):
        reader = Reader()
        self.check_fault(lambda: reader.feed((81, 80)), 0, "signature")
        self.assertEqual(len(reader), 0)
        self.assertEqual(reader.feed((82,)), 0)
        self.check_fault(lambda: reader.feed((81,)), 0, "signature")
        self.assertEqual(len(reader), 1)
        self.assertEqual(reader.feed(SMALL[1:6]), 0)
        self.check_fault(lambda: reader.feed((95, 0)), 6, "name")
        self.check_fault(lambda: reader.feed((*SMALL[6:], 5)), 20, "more")
        self.assertEqual(len(reader), 6)
        self.check_fault(reader.finish, 6, "end")
        self.assertEqual(reader.feed(SMALL[6:-1]), 0)
        self.check_fault(lambda: reader.feed((65,)), 19, "bits")
        self.assertEqual(reader.feed(SMALL[-1:]), 1)
        self.assertEqual(reader.finish(), read_file(SMALL))

    def test_a_fault_in_the_midst_of_a_piece(self):
        reader = Reader()
        reader.feed(SMALL[:9])
        self.check_fault(lambda: reader.feed((7, 1, 0, 9)), 9, "argument")
        self.assertEqual(len(reader), 9)
        self.assertEqual(reader.feed(SMALL[9:]), 1)

    def test_finish_leaves_it_as_it_is(self):
        reader = Reader()
        reader.feed(SMALL[:15])
        for _ in range(2):
            self.check_fault(reader.finish, 15, "end")
        self.assertEqual(reader.feed(SMALL[15:]), 1)
        for _ in range(2):
            self.assertEqual(reader.finish(), read_file(SMALL))
            self.assertEqual(len(reader), 20)

    def test_values_are_looked_at_last(self):
        # The entry of this file is too great, and the other one is circular: both can be fed as a whole.
        spoilt = (*SMALL[:13], 120, *SMALL[14:])
        reader = Reader()
        self.assertEqual(reader.feed(spoilt), 1)
        with self.assertRaises(BadValues) as caught:
            reader.finish()
        self.assertEqual((caught.exception.column, caught.exception.row), ("a", 0))
        reader = Reader()
        self.assertEqual(reader.feed(written((0, (("a", None, ("lookup", 0, 0), ((), (), ())),)))), 1)
        with self.assertRaises(CircularReferences):
            reader.finish()

    def test_pieces_make_no_difference(self):
        source = random.Random(164)
        for _ in range(120):
            numbers = random_file(source, random_table(source))
            reader = Reader()
            for piece in pieces_of(source, numbers):
                many = reader.feed(piece)
                self.assertEqual(many, arrived(numbers, len(reader)))
            self.assertEqual(reader.finish(), read_file(numbers))

    def test_faults_in_pieces(self):
        source = random.Random(165)
        met = []
        for _ in range(250):
            numbers = list(written(random_contents(source))[:300])
            place = source.randrange(min(len(numbers), source.choice((8, 30, 300))))
            numbers[place] = source.choice((0, 1, 2, 7, 255, numbers[place] ^ 1, numbers[place] ^ 128))
            reader = Reader()
            fed = ()
            for piece in pieces_of(source, tuple(numbers)):
                expected = slow_contents(fed + piece)
                if isinstance(expected[1], str) and expected[1] != "end":
                    self.check_fault(lambda: reader.feed(piece), *expected)
                    met.append(expected[1])
                else:
                    reader.feed(piece)
                    fed += piece
                self.assertEqual(len(reader), len(fed))
        self.assertGreater(len(set(met)), 5)


class IndependenceTests(unittest.TestCase):

    def test_two_readers(self):
        first, second = Reader(), Reader()
        first.feed(SMALL[:12])
        second.feed(SMALL[:3])
        self.assertEqual((len(first), len(second)), (12, 3))
        with self.assertRaises(BadFile):
            second.feed((99,))
        self.assertEqual(first.feed(SMALL[12:]), 1)
        self.assertEqual(second.feed(SMALL[3:]), 1)
        self.assertEqual(first.finish(), second.finish())


if __name__ == "__main__":
    unittest.main()
