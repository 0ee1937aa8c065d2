"""[50] to [53]: sizes, full widths, best and tied recipes."""

import random
import unittest

from refpack.recipes import all_sizes, best_recipe, best_recipes, full_width, made_size
from refpack.sections import section_of, section_size

LEVEL = (20, 21, 23, 20, 90, 22)
HIGHER = (25, 26, 29, 26, 95, 27)
GREATEST = 1000000000
OWN = ("frame", "step", "dictionary")
RELATIVE = ("offset", "lookup")


def random_case(source):
    many = source.choice((0, 1, 2, 3, 7, 16, 24))
    reach = source.choice((1, 4, 50, GREATEST))
    values = tuple(source.randint(-reach, reach) for _ in range(many))
    reference = tuple(source.randint(-reach, reach) for _ in range(many))
    near = tuple(min(value + source.randrange(3), GREATEST) for value in values)
    return values, source.choice((None, reference, near))


def kinds(reference):
    return OWN if reference is None else RELATIVE


class DocumentTests(unittest.TestCase):

    def test_table(self):
        sizes = {
            "frame": (35, 30, 19, 20, 20, 21, 22, 17),
            "step": (41, 36, 37, 32, 32, 27, 28, 23, 17),
            "dictionary": (35, 34, 31, 30),
        }
        expected = tuple((kind, width, size) for kind in OWN for width, size in enumerate(sizes[kind]))
        self.assertEqual(all_sizes(LEVEL, None), expected)
        for kind in OWN:
            self.assertEqual(full_width(kind, LEVEL, None), len(sizes[kind]) - 1)
            for width, size in enumerate(sizes[kind]):
                self.assertEqual(made_size(kind, width, LEVEL, None), size)
        self.assertEqual(best_recipe(LEVEL, None), ("frame", 7, 17))
        self.assertEqual(best_recipes(LEVEL, None), (("frame", 7), ("frame", 8), ("step", 8)))
        self.assertEqual(best_recipe(LEVEL, HIGHER)[2], made_size("offset", 1, LEVEL, HIGHER))
        self.assertEqual(best_recipe(HIGHER, LEVEL), ("offset", 1, 12))

    def test_examples_of_the_interface(self):
        self.assertEqual(all_sizes((5, 5, 5, 8, 8, 8), None), (
            ("frame", 0, 29), ("frame", 1, 30), ("frame", 2, 13), ("step", 0, 23), ("step", 1, 24), ("step", 2, 19),
            ("step", 3, 14), ("dictionary", 0, 29), ("dictionary", 1, 16)))
        self.assertEqual(best_recipe(LEVEL, HIGHER), ("offset", 1, 12))
        self.assertEqual(best_recipes((5, 6), None), (
            ("frame", 1), ("frame", 2), ("frame", 3), ("frame", 4), ("step", 3), ("step", 4)))
        self.assertEqual(best_recipe((), None), ("dictionary", 0, 7))

    def test_costs_of_trips(self):
        trips = ((603, 600, 615, 605), (604, 600, 618, 607), (654, 650, 668, 657))
        costs = tuple(tuple(best_recipe(values, None if values == other else other)[2] for other in trips)
                      for values in trips)
        self.assertEqual(costs, ((13, 12, 12), (12, 14, 11), (12, 11, 14)))
        self.assertEqual(best_recipe(trips[0], None), ("frame", 4, 13))
        self.assertEqual(best_recipe(trips[0], trips[1]), ("offset", 2, 12))
        self.assertEqual(best_recipe(trips[2], trips[1]), ("offset", 0, 11))

    def test_a_lookup_and_an_offset_with_the_same_size(self):
        values = (0, 0, 300, 300)
        self.assertEqual(best_recipe(values, (0, 0, 1, 1)), ("lookup", 0, 15))
        self.assertEqual(best_recipe(values, (0, 0, 200, 200)), ("offset", 7, 15))
        self.assertEqual(best_recipes(values, (0, 0, 200, 200)), (("offset", 7), ("offset", 8), ("lookup", 0)))


class EdgeTests(unittest.TestCase):

    def test_without_rows(self):
        for kind, reference in (("frame", None), ("step", None), ("dictionary", None), ("offset", ()), ("lookup", ())):
            size = 7 if kind in ("dictionary", "lookup") else 11
            self.assertEqual(full_width(kind, (), reference), 0)
            for width in (0, 1, 32):
                self.assertEqual(made_size(kind, width, (), reference), size)
        self.assertEqual(all_sizes((), None), (("frame", 0, 11), ("step", 0, 11), ("dictionary", 0, 7)))
        self.assertEqual(all_sizes((), ()), (("offset", 0, 11), ("lookup", 0, 7)))
        self.assertEqual(best_recipe((), ()), ("lookup", 0, 7))
        self.assertEqual(best_recipes((), None), tuple(("dictionary", width) for width in range(33)))
        self.assertEqual(best_recipes((), ()), tuple(("lookup", width) for width in range(33)))

    def test_constant_column(self):
        for value in (0, 7, -GREATEST, GREATEST):
            values = (value,) * 24
            self.assertEqual(best_recipe(values, None), ("frame", 0, 11))
            self.assertEqual([full_width(kind, values, None) for kind in ("frame", "dictionary")], [0, 0])
            self.assertEqual(best_recipe(values, values), ("offset", 0, 11))
            self.assertEqual(best_recipes(values, values), (("offset", 0), ("lookup", 0)))

    def test_full_widths_at_the_ends(self):
        values = (GREATEST, -GREATEST, GREATEST)
        self.assertEqual(full_width("frame", values, None), 31)
        self.assertEqual(full_width("step", values, None), 32)
        self.assertEqual(full_width("dictionary", values, None), 1)
        self.assertEqual(full_width("offset", values, (-GREATEST, GREATEST, GREATEST)), 32)
        self.assertEqual(full_width("lookup", values, (1, 1, 2)), 31)
        self.assertEqual(full_width("lookup", values, (1, 2, 1)), 0)
        self.assertEqual([full_width("dictionary", tuple(range(many)), None) for many in (1, 2, 3, 4, 5, 8, 9, 24)],
                         [0, 1, 2, 2, 3, 3, 4, 5])

    def test_the_first_row_counts_for_steps(self):
        self.assertEqual(full_width("step", (100,), None), 0)
        self.assertEqual(full_width("step", (100, 100), None), 7)


class AgreementTests(unittest.TestCase):

    def test_sizes_are_those_of_the_sections(self):
        source = random.Random(50)
        for _ in range(150):
            values, reference = random_case(source)
            for kind in kinds(reference):
                for width in (0, 1, 2, 3, 8, 30, 31, 32):
                    section = section_of(kind, width, values, reference)
                    size = section_size(width, section)
                    self.assertEqual(made_size(kind, width, values, reference), size)
                    self.assertEqual(section[1] == (), width >= full_width(kind, values, reference))

    def test_best_and_tied_recipes(self):
        source = random.Random(52)
        for _ in range(150):
            values, reference = random_case(source)
            every = [(kind, width, made_size(kind, width, values, reference))
                     for kind in kinds(reference) for width in range(33)]
            cost = min(size for _, _, size in every)
            tied = tuple((kind, width) for kind, width, size in every if size == cost)
            self.assertEqual(best_recipes(values, reference), tied)
            self.assertEqual(best_recipe(values, reference), (*tied[0], cost))
            listed = tuple(triple for triple in every if triple[1] <= full_width(triple[0], values, reference))
            self.assertEqual(all_sizes(values, reference), listed)


if __name__ == "__main__":
    unittest.main()
