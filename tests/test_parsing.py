"""[120] to [124]: what a file says, its faults, their order, their reasons and places."""

import random
import unittest

from slow_files import SMALL, STRING_CODES, random_contents, slow_contents

from refpack.errors import BadFile
from refpack.parsing import parsed
from refpack.writing import written

# A file with two columns: 2 rows, "ab" with the labels "" and "x", and "c" as a lookup by it.
RICH = (
    82, 80, 0, 2, 2,
    2, 97, 98, 2, 0, 1, 120,
    1, 99, 0,
    2, 0, 3, 0, 2, 0, 0, 0, 1, 0, 0, 0, 0, 0, 0, 0b00000100,
    4, 0, 32, 0, 2, 255, 255, 255, 251, 0, 0, 0, 9, 0, 2, 0, 0, 0, 0, 1, 44, 0, 1, 255, 255, 255, 255,
    0, 0, 0, 7, 255, 255, 255, 255,
)
RICH_CONTENTS = (2, (
    ("ab", ("", "x"), ("dictionary", None, 3), ((1, 0), (), (0, 1))),
    ("c", None, ("lookup", 0, 32), ((-5, 9), ((0, 300), (1, -1)), (7, 4294967295))),
))


def fault_of(numbers):
    try:
        parsed(numbers)
    except BadFile as fault:
        return fault.place, fault.reason
    return None


def replaced(numbers, place, *others):
    """The numbers with other ones from the place on."""
    return numbers[:place] + others + numbers[place + len(others):]


class ContentTests(unittest.TestCase):

    def test_examples(self):
        self.assertEqual(parsed(SMALL), (2, (("a", None, ("frame", None, 1), ((5,), (), (0, 1))),)))
        self.assertEqual(parsed(RICH), RICH_CONTENTS)

    def test_every_kind(self):
        start = (82, 80, 0, 1, 1, 1, 97, 0)
        one = (0, 1, 255, 255, 255, 255, 0, 0)
        self.assertEqual(parsed((*start, 0, 0, 0, *one))[1][0][2], ("frame", None, 0))
        self.assertEqual(parsed((*start, 1, 0, 0, *one))[1][0][2], ("step", None, 0))
        self.assertEqual(parsed((*start, 2, 0, 0, *one))[1][0][2], ("dictionary", None, 0))
        self.assertEqual(parsed((*start, 3, 0, 0, *one))[1][0][2], ("offset", 0, 0))
        self.assertEqual(parsed((*start, 4, 0, 0, *one))[1][0][2:], (("lookup", 0, 0), ((-1,), (), (0,))))

    def test_no_rows_and_no_entries(self):
        self.assertEqual(parsed((82, 80, 0, 0, 1, 1, 97, 0, 2, 0, 32, 0, 0, 0, 0)),
                         (0, (("a", None, ("dictionary", None, 32), ((), (), ())),)))

    def test_greatest_header(self):
        name = tuple(ord(character) for character in "Z_0123456789abcdefgh")
        label = tuple(range(38, 46))
        labels = tuple(number for first in range(60, 66) for number in (8, first, *label[1:]))
        columns = tuple(number for last in range(65, 71) for number in (20, *name[:-1], last, 6, *labels))
        sections = (2, 0, 0, 0, 0, 0, 0) * 6
        contents = parsed((82, 80, 0, 24, 6, *columns, *sections))
        self.assertEqual(contents[0], 24)
        self.assertEqual([part[0] for part in contents[1]], ["Z_0123456789abcdefg" + last for last in "ABCDEF"])
        self.assertEqual(contents[1][5][1], tuple(first + "'()*+,-" for first in "<=>?@A"))
        self.assertEqual(contents[1][5][3], ((), (), (0,) * 24))

    def test_circular_references_and_wrong_values_are_parsed(self):
        contents = (1, (("a", ("x",), ("offset", 1, 0), ((9,), (), (0,))),
                        ("b", None, ("lookup", 0, 0), ((), (), (0,))),
                        ("c", None, ("offset", 2, 32), ((2147483647,), ((0, -2147483648),), (4294967295,)))))
        self.assertEqual(parsed(written(contents)), contents)


class FaultTests(unittest.TestCase):

    def test_examples(self):
        self.assertEqual(fault_of((82,)), (1, "end"))
        self.assertEqual(fault_of((81, 80)), (0, "signature"))
        self.assertEqual(fault_of(SMALL[:15]), (15, "end"))
        self.assertEqual(fault_of(replaced(SMALL, 6, 95)), (6, "name"))
        self.assertEqual(fault_of(()), (0, "end"))

    def test_each_reason_and_its_place(self):
        cases = (
            ((81,), 0, 0, "signature"), ((79,), 1, 0, "signature"), ((0, 0), 0, 0, "signature"),
            ((25,), 3, 2, "rows"), ((1, 0), 2, 2, "rows"), ((255, 255), 2, 2, "rows"),
            ((0,), 4, 4, "columns"), ((7,), 4, 4, "columns"), ((255,), 4, 4, "columns"),
            ((0,), 5, 5, "name length"), ((21,), 5, 5, "name length"), ((0,), 12, 12, "name length"),
            ((48,), 6, 6, "name"), ((46,), 7, 6, "name"), ((200,), 7, 6, "name"), ((32,), 13, 13, "name"),
            ((7,), 8, 8, "labels"), ((255,), 8, 8, "labels"), ((7,), 14, 14, "labels"),
            ((9,), 9, 9, "label length"), ((9,), 10, 10, "label length"), ((255,), 10, 10, "label length"),
            ((37,), 11, 10, "label"), ((127,), 11, 10, "label"), ((31,), 11, 10, "label"),
            ((5,), 15, 15, "kind"), ((255,), 31, 31, "kind"),
            ((1,), 16, 16, "argument"), ((2,), 32, 32, "argument"), ((255,), 32, 32, "argument"),
            ((33,), 17, 17, "width"), ((255,), 33, 33, "width"),
            ((2,), 47, 46, "patch"), ((1, 0), 46, 46, "patch"), ((0, 0), 52, 52, "patch"), ((2,), 53, 52, "patch"),
            ((5,), 30, 30, "bits"), ((6,), 30, 30, "bits"),
        )
        for numbers, place, fault_place, reason in cases:
            self.assertEqual(fault_of(replaced(RICH, place, *numbers)), (fault_place, reason), (numbers, place))

    def test_duplicates(self):
        names = (82, 80, 0, 0, 3, 1, 97, 0, 1, 65, 0, 1, 97, 0)
        self.assertEqual(fault_of(names), (12, "duplicate name"))
        self.assertEqual(fault_of(replaced(names, 9, 97)), (9, "duplicate name"))
        labels = (82, 80, 0, 0, 1, 1, 97, 4, 1, 98, 0, 1, 66, 0)
        self.assertEqual(fault_of(labels), (13, "duplicate label"))
        self.assertEqual(fault_of((82, 80, 0, 0, 1, 1, 97, 3, 2, 98, 99, 1, 98, 2, 98, 99)), (13, "duplicate label"))
        # Two columns may have the same labels, and a label may be a name.
        same = (82, 80, 0, 0, 2, 1, 97, 1, 1, 97, 1, 98, 1, 1, 97, *(2, 0, 0, 0, 0, 0, 0) * 2)
        self.assertIsNone(fault_of(same))

    def test_one_entry(self):
        for kind in (0, 1, 3):
            for many in ((0, 0), (0, 2), (1, 1), (255, 255)):
                changed = replaced(replaced(SMALL, 8, kind), 11, *many)
                self.assertEqual(fault_of(changed), (11, "entries"))
        for kind in (2, 4):
            self.assertIsNone(fault_of((*SMALL[:8], kind, 0, 1, 0, 0, 0, 0, 64)))
            self.assertIsNone(fault_of((*SMALL[:8], kind, 0, 1, 0, 2, *(0,) * 8, 0, 0, 64)))
            self.assertEqual(fault_of((*SMALL[:8], kind, 0, 1, 255, 255, 0)), (14, "end"))

    def test_arguments(self):
        for kind, arguments in ((0, 1), (1, 1), (2, 1), (3, 2), (4, 2)):
            for argument in (0, 1, 2, 255):
                file = (82, 80, 0, 0, 2, 1, 97, 0, 1, 98, 0, kind, argument)
                expected = (13, "end") if argument < arguments else (12, "argument")
                self.assertEqual(fault_of(file), expected)

    def test_patches(self):
        start = (82, 80, 0, 3, 1, 1, 97, 0, 2, 0, 0, 0, 0)

        def file(*rows):
            return (*start, 0, len(rows), *(number for row in rows for number in (0, row, 0, 0, 0, 7)))

        for rows in ((), (0,), (2,), (0, 1, 2), (0, 2)):
            self.assertIsNone(fault_of(file(*rows)), rows)
        for rows, place in (((3,), 15), ((0, 0), 21), ((1, 0), 21), ((0, 2, 2), 27), ((0, 2, 1), 27), ((2, 3), 21),
                            ((0, 1, 2, 3), 33), ((0, 1, 2, 2), 33), ((255,), 15)):
            self.assertEqual(fault_of(file(*rows)), (place, "patch"), rows)
        # The row is checked before its value is read.
        self.assertEqual(fault_of(file(0, 0)[:23]), (21, "patch"))
        self.assertEqual(fault_of(file(0, 0)[:22]), (22, "end"))
        self.assertEqual(fault_of(file(0, 1)[:23]), (23, "end"))
        # Without rows no row can be patched.
        self.assertEqual(fault_of(replaced(file(0), 3, 0)), (15, "patch"))

    def test_unused_bits(self):
        for rows, width in ((1, 1), (3, 1), (1, 7), (2, 5), (5, 31), (24, 0), (8, 3), (1, 32)):
            used = rows * width
            length = -(-used // 8)
            start = (82, 80, 0, rows, 1, 1, 97, 0, 2, 0, width, 0, 0, 0, 0)
            ones = (1 << (8 * length)) - (1 << (8 * length - used))
            file = (*start, *ones.to_bytes(length, "big"))
            self.assertIsNone(fault_of(file))
            for bit in range(8 * length - used):
                spoilt = (*file[:-1], file[-1] | (1 << bit))
                self.assertEqual(fault_of(spoilt), (len(file) - 1, "bits"))
                self.assertEqual(fault_of((*spoilt, 0)), (len(file) - 1, "bits"))

    def test_every_character_of_labels(self):
        for code in range(256):
            for codes in ((code,), (65, code), (code, 65)):
                file = (82, 80, 0, 0, 1, 1, 97, 1, len(codes), *codes, 2, 0, 0, 0, 0, 0, 0)
                if code in STRING_CODES:
                    self.assertEqual(parsed(file)[1][0][1], ("".join(map(chr, codes)),))
                else:
                    self.assertEqual(fault_of(file), (8, "label"))

    def test_every_character_of_names(self):
        letters = [*range(65, 91), *range(97, 123)]
        for code in range(256):
            for codes in ((code,), (65, code), (code, 65)):
                file = (82, 80, 0, 0, 1, len(codes), *codes, 0, 2, 0, 0, 0, 0, 0, 0)
                others = [*range(48, 58), 95] if codes[0] == 65 and len(codes) == 2 and codes[1] == code else []
                if code in letters + others:
                    self.assertEqual(parsed(file)[1][0][0], "".join(map(chr, codes)))
                else:
                    self.assertEqual(fault_of(file), (6, "name"))

    def test_an_end_at_each_integer(self):
        for file in (SMALL, RICH):
            for length in range(len(file)):
                self.assertEqual(fault_of(file[:length]), (length, "end"))
            self.assertIsNone(fault_of(file))

    def test_more(self):
        for file in (SMALL, RICH):
            self.assertEqual(fault_of((*file, 0)), (len(file), "more"))
            self.assertEqual(fault_of((*file, *file)), (len(file), "more"))

    def test_of_two_faults_the_first_one(self):
        self.assertEqual(fault_of((81,)), (1, "end"))
        self.assertEqual(fault_of((81, 80, 0, 25, 0)), (0, "signature"))
        self.assertEqual(fault_of((82, 80, 0, 25, 0)), (2, "rows"))
        self.assertEqual(fault_of((82, 80, 255)), (3, "end"))
        self.assertEqual(fault_of((82, 80, 0, 24, 0, 0)), (4, "columns"))
        # A name and a label are read as a whole before they are checked.
        self.assertEqual(fault_of((82, 80, 0, 0, 1, 3, 95, 95)), (8, "end"))
        self.assertEqual(fault_of((82, 80, 0, 0, 1, 3, 95, 95, 95)), (6, "name"))
        self.assertEqual(fault_of((82, 80, 0, 0, 1, 21)), (5, "name length"))
        self.assertEqual(fault_of((82, 80, 0, 0, 1, 1, 97, 1, 2, 37)), (10, "end"))
        self.assertEqual(fault_of((82, 80, 0, 0, 1, 1, 97, 1, 2, 37, 37)), (8, "label"))
        self.assertEqual(fault_of((82, 80, 0, 0, 1, 1, 97, 1, 9)), (8, "label length"))
        # So are the codes of a section.
        self.assertEqual(fault_of((*SMALL[:8], 0, 0, 5, *SMALL[11:19], 255)), (20, "end"))
        self.assertEqual(fault_of((*SMALL[:8], 0, 0, 5, *SMALL[11:19], 255, 255)), (20, "bits"))
        # All heads come before all sections.
        self.assertEqual(fault_of((82, 80, 0, 0, 2, 1, 97, 0, 1, 97, 0, 5)), (9, "duplicate name"))
        self.assertEqual(fault_of((82, 80, 0, 0, 1, 1, 97, 0, 5, 9, 99)), (8, "kind"))
        self.assertEqual(fault_of((82, 80, 0, 0, 1, 1, 97, 0, 0, 9, 99)), (9, "argument"))
        self.assertEqual(fault_of((82, 80, 0, 0, 1, 1, 97, 0, 0, 0, 99)), (10, "width"))
        self.assertEqual(fault_of((82, 80, 0, 0, 1, 1, 97, 0, 0, 0, 32, 9)), (12, "end"))

    def test_names_and_kinds_of_values(self):
        self.assertIsInstance(fault_of((81, 80))[0], int)
        with self.assertRaises(ValueError) as caught:
            parsed(())
        self.assertIs(caught.exception.__class__, BadFile)


class ComparisonTests(unittest.TestCase):

    def check(self, numbers):
        expected = slow_contents(numbers)
        try:
            found = parsed(numbers)
        except BadFile as fault:
            found = fault.place, fault.reason
        self.assertEqual(found, expected, numbers)

    def test_written_files(self):
        source = random.Random(123)
        for _ in range(150):
            contents = random_contents(source)
            numbers = written(contents)
            self.assertEqual(parsed(numbers), contents)
            self.assertEqual(slow_contents(numbers), contents)

    def test_spoilt_files(self):
        source = random.Random(124)
        for _ in range(400):
            numbers = list(written(random_contents(source)))
            for _ in range(source.choice((1, 1, 2, 6))):
                place = source.randrange(source.choice((len(numbers), min(len(numbers), 40))))
                numbers[place] = source.choice((0, 1, 2, 5, 7, 24, 25, 33, 37, 65, 97, 255, source.randrange(256)))
            self.check(tuple(numbers))
            self.check(tuple(numbers[:source.randrange(len(numbers))]))

    def test_any_integers(self):
        source = random.Random(125)
        for _ in range(300):
            tail = [source.choice((0, 0, 0, 1, 1, 2, 3, 65, 66, 97, 98, 99)) for _ in range(source.randint(0, 80))]
            self.check((82, 80, 0, source.choice((0, 1, 3, 9)), *tail))


if __name__ == "__main__":
    unittest.main()
