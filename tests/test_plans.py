"""[80] to [83], [6]: what a plan raises, its sections, its size, the order of plans, what is needed."""

import itertools
import random
import unittest

from refpack.errors import CircularReferences, UnknownColumn
from refpack.plans import (
    check_plan, choice_of, file_size, needed_columns, plan_order, plan_sections, plan_sizes,
)
from refpack.sections import section_of, section_size

STATE = ("state", None, (8, 3, 5, 3, 5, 8))
TARIFF = ("tariff", None, (70, 30, 50, 31, 50, 70))
RATES = (STATE, TARIFF)
ORDERS = (
    ("zip", None, (10115, 10117, 10115, 80331, 80331, 10117)),
    ("city", ("Berlin", "Munich"), (0, 0, 0, 1, 1, 0)),
    ("ordered", None, (20100, 20100, 20101, 20102, 20102, 20105)),
    ("shipped", None, (20102, 20102, 20104, 20104, 20105, 20107)),
)
PACKED = (("lookup", "city", 2), ("frame", None, 1), ("frame", None, 3), ("offset", "ordered", 1))
FOUR = tuple((name, None, (1, 2)) for name in "abcd")
KINDS = ("frame", "step", "dictionary", "offset", "lookup")


def offsets(*names):
    """A plan of offsets from these columns, frames for None."""
    return tuple(("frame" if name is None else "offset", name, 1) for name in names)


def takers():
    """Each function that takes a plan, as a function of the table and the plan."""
    return (
        check_plan, choice_of, plan_sections, plan_sizes, file_size,
        lambda table, plan: plan_order(table, plan, offsets(*[None] * len(table))),
        lambda table, plan: plan_order(table, offsets(*[None] * len(table)), plan),
        lambda table, plan: needed_columns(table, plan, ()),
    )


class RaisingTests(unittest.TestCase):

    def check_unknown(self, name, call, *arguments):
        with self.assertRaises(UnknownColumn) as caught:
            call(*arguments)
        self.assertEqual(caught.exception.name, name)

    def test_example(self):
        with self.assertRaises(CircularReferences):
            check_plan(RATES, (("offset", "tariff", 6), ("lookup", "state", 0)))

    def test_good_plans(self):
        self.assertIsNone(check_plan(ORDERS, PACKED))
        self.assertIsNone(check_plan((STATE,), (("frame", None, 32),)))
        self.assertIsNone(check_plan(FOUR, offsets("b", "c", "d", None)))

    def test_unknown_columns(self):
        for taker in takers():
            self.check_unknown("e", taker, FOUR, offsets(None, None, "e", None))
            self.check_unknown("A", taker, FOUR, offsets(None, "a", "A", "x"))
            self.check_unknown("", taker, FOUR, offsets("", "a", "A", "x"))

    def test_circles(self):
        plans = (
            offsets("a", None, None, None), offsets("b", "a", None, None), offsets(None, "c", "d", "b"),
            offsets(None, None, "d", "d"), offsets("b", "c", "c", None),
        )
        for taker in takers():
            for plan in plans:
                with self.assertRaises(CircularReferences):
                    taker(FOUR, plan)

    def test_unknown_columns_come_before_circles(self):
        for taker in takers():
            self.check_unknown("x", taker, FOUR, offsets("b", "a", "x", "y"))
            self.check_unknown("y", taker, FOUR, offsets("a", "y", "c", "x"))

    def test_the_first_plan_is_checked_before_the_second(self):
        circular = offsets("a", None, None, None)
        with self.assertRaises(CircularReferences):
            plan_order(FOUR, circular, offsets("x", None, None, None))
        self.check_unknown("x", plan_order, FOUR, offsets("x", None, None, None), circular)
        self.check_unknown("y", plan_order, FOUR, offsets("y", None, None, None), offsets("x", None, None, None))

    def test_the_plan_is_checked_before_names(self):
        with self.assertRaises(CircularReferences):
            needed_columns(FOUR, offsets("a", None, None, None), ("x",))
        self.check_unknown("y", needed_columns, FOUR, offsets("y", None, None, None), ("x",))
        self.check_unknown("x", needed_columns, FOUR, offsets(None, None, None, None), ("a", "x", "y"))


class SectionTests(unittest.TestCase):

    def test_example(self):
        plan = (("dictionary", None, 1), ("lookup", "state", 0))
        self.assertEqual(plan_sizes(RATES, plan), (28, 25))
        self.assertEqual(plan_sections(RATES, plan), (
            ((3, 5), ((0, 8), (5, 8)), (0, 0, 1, 0, 1, 0)), ((30, 50, 70), ((3, 31),), (0, 0, 0, 0, 0, 0))))
        self.assertEqual(choice_of(RATES, plan), (None, 0))

    def test_orders(self):
        self.assertEqual(choice_of(ORDERS, PACKED), (1, None, None, 2))
        self.assertEqual(sum(plan_sizes(ORDERS, PACKED)), 55)
        self.assertEqual(file_size(ORDERS, PACKED), 103)

    def test_trips(self):
        trips = (("planned", None, (603, 600, 615, 605)), ("start", None, (604, 600, 618, 607)),
                 ("end", None, (654, 650, 668, 657)))
        plan = (("frame", None, 4), ("frame", None, 5), ("offset", "start", 0))
        self.assertEqual(plan_sizes(trips, plan), (13, 14, 11))
        self.assertEqual(file_size(trips, plan), 64)
        plan = (("frame", None, 4), ("offset", "end", 0), ("offset", "planned", 2))
        self.assertEqual(choice_of(trips, plan), (None, 2, 0))
        self.assertEqual(file_size(trips, plan), 62)

    def test_sections_are_those_of_the_recipes(self):
        source = random.Random(81)
        for _ in range(100):
            many = source.choice((0, 1, 6, 24))
            table = tuple((name, None, tuple(source.randint(-9, 9) for _ in range(many))) for name in "abc")
            kinds = [source.choice(KINDS) for _ in table]
            names = [source.choice("abc"[:place]) if kind in KINDS[3:] and place else None
                     for place, kind in enumerate(kinds)]
            plan = tuple((kind if name or kind not in KINDS[3:] else "step", name, source.choice((0, 2, 5, 32)))
                         for kind, name in zip(kinds, names))
            values = {name: column for name, _, column in table}
            sections = tuple(section_of(kind, width, column[2], values.get(name))
                             for column, (kind, name, width) in zip(table, plan))
            self.assertEqual(plan_sections(table, plan), sections)
            sizes = tuple(section_size(recipe[2], section) for recipe, section in zip(plan, sections))
            self.assertEqual(plan_sizes(table, plan), sizes)
            self.assertEqual(file_size(table, plan), 5 + 3 * 3 + sum(sizes))

    def test_references_to_later_columns(self):
        table = (("a", None, (5, 7)), ("b", None, (4, 6)))
        self.assertEqual(plan_sections(table, (("offset", "b", 0), ("frame", None, 2)))[0], ((1,), (), (0, 0)))

    def test_header(self):
        # The file of 20 integers in the document: a header of 8 and a section of 12.
        self.assertEqual(file_size((("a", None, (5, 6)),), (("frame", None, 1),)), 20)
        labels = ("", "x", "12345678")
        table = (("b" * 20, labels, ()), ("c", ("",), ()))
        plan = (("dictionary", None, 0), ("dictionary", None, 32))
        self.assertEqual(file_size(table, plan), 5 + (2 + 20 + 3 + 9) + (2 + 1 + 1) + 7 + 7)


class OrderTests(unittest.TestCase):

    def test_example(self):
        first = (("frame", None, 3), ("lookup", "state", 0))
        second = (("frame", None, 3), ("offset", "state", 6))
        self.assertEqual(plan_order(RATES, first, second), 1)
        self.assertEqual(plan_order(RATES, second, first), -1)
        self.assertEqual(plan_order(RATES, first, first), 0)

    def check_ascending(self, *plans):
        for (place, plan), (other_place, other) in itertools.product(enumerate(plans), repeat=2):
            order = (place > other_place) - (place < other_place)
            self.assertEqual(plan_order(FOUR, plan, other), order, (plan, other))

    def test_kind_then_reference_then_width(self):
        rest = offsets(None, None, None)
        recipes = (
            ("frame", None, 0), ("frame", None, 32), ("step", None, 0), ("step", None, 1), ("dictionary", None, 0),
            ("offset", "b", 0), ("offset", "b", 9), ("offset", "c", 0), ("offset", "d", 31), ("lookup", "b", 0),
            ("lookup", "b", 1), ("lookup", "d", 0),
        )
        self.check_ascending(*[(recipe, *rest) for recipe in recipes])

    def test_the_first_column_decides(self):
        self.check_ascending(
            (("frame", None, 1), ("lookup", "d", 32), ("frame", None, 9), ("frame", None, 9)),
            (("frame", None, 2), ("frame", None, 0), ("frame", None, 9), ("frame", None, 8)),
            (("frame", None, 2), ("frame", None, 0), ("frame", None, 9), ("frame", None, 9)),
            (("frame", None, 2), ("frame", None, 0), ("step", None, 0), ("frame", None, 0)),
        )

    def test_the_place_of_the_reference_counts_and_not_its_name(self):
        table = (("a", None, ()), ("z", None, ()), ("b", None, ()))
        plans = [(("offset", name, 0), ("frame", None, 0), ("frame", None, 0)) for name in "zb"]
        self.assertEqual(plan_order(table, *plans), -1)


class NeededTests(unittest.TestCase):

    def test_example(self):
        plan = (("dictionary", None, 1), ("lookup", "state", 0))
        self.assertEqual(needed_columns(RATES, plan, ("tariff",)), ("state", "tariff"))
        self.assertEqual(needed_columns(RATES, plan, ("state",)), ("state",))

    def test_chains_of_several_columns(self):
        plan = offsets("c", None, "d", None)
        cases = (
            ((), ()), (("a",), ("a", "c", "d")), (("b",), ("b",)), (("d", "b"), ("b", "d")), (("c",), ("c", "d")),
            (("d", "c", "d", "c"), ("c", "d")), (("b", "a"), ("a", "b", "c", "d")), (("a",) * 12, ("a", "c", "d")),
        )
        for names, needed in cases:
            self.assertEqual(needed_columns(FOUR, plan, names), needed)


if __name__ == "__main__":
    unittest.main()
