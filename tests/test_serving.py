"""[136], [117], [6], [132]: least bytes for some columns, serving plans and bounds for queries."""

import random
import unittest

from slow_files import ORDERS, TRIPS, random_file, random_table
from slow_plans import SlowPlans, named_fixed, named_pairs

from refpack.certificates import certify, numbered
from refpack.duals import dual_bound
from refpack.errors import CircularReferences, UnknownColumn
from refpack.packing import first_least_plan, least_size
from refpack.plans import check_plan, file_size, needed_columns, plan_sizes
from refpack.pricing import costs_of
from refpack.reading import listed, read_file
from refpack.serving import least_bytes, query_bound, serving_plan
from refpack.tables import header_size

SERVING = (("lookup", "city", 2), ("frame", None, 1), ("offset", "shipped", 1), ("frame", None, 3))
EMPTY = (("a", None, ()), ("b", None, ()))


def random_names(source, table):
    names = [column[0] for column in table]
    return tuple(source.sample(names, source.randint(1, len(names))))


def needed_bytes(table, plan, names):
    """The bytes of the sections that the file of the plan needs for the columns."""
    needed = needed_columns(table, plan, names)
    return sum(size for column, size in zip(table, plan_sizes(table, plan)) if column[0] in needed)


class LeastBytesTests(unittest.TestCase):

    def test_examples(self):
        self.assertEqual(least_bytes(ORDERS, ("shipped",)), 14)

    def test_names_in_any_order(self):
        for names in (("ordered", "shipped"), ("shipped", "ordered")):
            self.assertEqual(least_bytes(ORDERS, names), 26)
        self.assertEqual(least_bytes(ORDERS, ("shipped", "city", "zip", "ordered")), 55)

    def test_edges(self):
        self.assertEqual(least_bytes((("a", None, (5, 6)),), ("a",)), 12)
        self.assertEqual(least_bytes(EMPTY, ("b",)), 7)
        self.assertEqual(least_bytes(EMPTY, ("b", "a")), 14)

    def test_fixed_references(self):
        self.assertEqual(least_bytes(ORDERS, ("shipped",), fixed=(("shipped", "ordered"),)), 26)
        self.assertEqual(least_bytes(ORDERS, ("shipped",), fixed=(("ordered", "shipped"),)), 14)
        self.assertEqual(least_bytes(EMPTY, ("a",), fixed=(("a", "b"),)), 14)

    def test_no_file_needs_fewer_bytes(self):
        source = random.Random(136)
        for _ in range(120):
            table = random_table(source)
            numbers = random_file(source, table)
            plan = read_file(numbers)[1]
            names = random_names(source, table)
            needed = needed_columns(table, plan, names)
            spent = sum(row[7] for row in listed(numbers) if row[0] in needed)
            fixed = tuple((column[0], recipe[1]) for column, recipe in zip(table, plan) if source.random() < 0.5)
            for some in ((), fixed):
                self.assertGreaterEqual(spent, least_bytes(table, names, fixed=some))
                for certificate in (certify(table), certify(table, fixed=some), named_pairs(source, table)):
                    self.assertGreaterEqual(spent, query_bound(table, certificate, names, fixed=some))


class ServingPlanTests(unittest.TestCase):

    def test_examples(self):
        self.assertEqual(serving_plan(ORDERS, ("shipped",)), SERVING)
        self.assertEqual(file_size(ORDERS, SERVING), 103)
        self.assertEqual(needed_bytes(ORDERS, SERVING, ("shipped",)), 14)
        self.assertEqual(needed_bytes(ORDERS, first_least_plan(ORDERS), ("shipped",)), 26)

    def test_all_columns(self):
        for table in (ORDERS, TRIPS, EMPTY):
            names = tuple(column[0] for column in reversed(table))
            self.assertEqual(serving_plan(table, names), first_least_plan(table))

    def test_edges(self):
        self.assertEqual(serving_plan((("a", None, (5, 6)),), ("a",)), (("frame", None, 1),))
        self.assertEqual(serving_plan(EMPTY, ("b",)), (("dictionary", None, 0), ("dictionary", None, 0)))

    def test_the_kind_is_compared_before_the_reference(self):
        # As in the first least plan: column a can be a lookup by b, or an offset from c, with as many bytes.
        table = (("a", None, (0, 0, 300, 300)), ("b", None, (0, 0, 1, 1)), ("c", None, (0, 0, 200, 200)))
        for names in (("b",), ("c",), ("c", "b")):
            self.assertEqual(serving_plan(table, names)[0], ("offset", "c", 7))
        # Here reading a needs fewer bytes without c.
        self.assertEqual(serving_plan(table, ("a",))[0], ("frame", None, 9))

    def test_fixed_references(self):
        plan = serving_plan(ORDERS, ("shipped",), fixed=(("shipped", "ordered"), ("zip", None)))
        self.assertEqual([recipe[1] for recipe in plan], [None, None, None, "ordered"])
        everything = (("planned", "end"), ("start", None), ("end", "start"))
        self.assertEqual(serving_plan(TRIPS, ("end",), fixed=everything),
                         (("offset", "end", 2), ("frame", None, 5), ("offset", "start", 0)))

    def test_by_trying_all_plans(self):
        source = random.Random(137)
        others = []
        for _ in range(40):
            table = random_table(source, rows=source.choice((0, 1, 2, 4, 9)))
            names = random_names(source, table)
            members = [place for place, column in enumerate(table) if column[0] in names]
            for fixed in ((), named_fixed(source, table)):
                slow = SlowPlans(table, fixed)
                least = min(slow.need(choice, members) for choice in slow.choices)
                choices = [choice for choice in slow.choices if slow.need(choice, members) == least]
                total = min(slow.total(choice) for choice in choices)
                expected = slow.first_with([choice for choice in choices if slow.total(choice) == total])
                plan = serving_plan(table, names, fixed=fixed)
                self.assertEqual(plan, expected)
                self.assertIsNone(check_plan(table, plan))
                self.assertEqual(least_bytes(table, names, fixed=fixed), least)
                self.assertEqual(needed_bytes(table, plan, names), least)
                self.assertEqual(file_size(table, plan), header_size(table) + total)
                others.append(total + header_size(table) > least_size(table, fixed=fixed))
        self.assertIn(True, others)


class QueryBoundTests(unittest.TestCase):

    def test_examples(self):
        self.assertEqual(query_bound(ORDERS, certify(ORDERS), ("shipped",)), 14)

    def test_edges(self):
        self.assertEqual(query_bound(ORDERS, (), ("shipped",)), 0)
        self.assertEqual(query_bound(ORDERS, ((("zip",), 17),), ("shipped",)), 0)
        self.assertEqual(query_bound(ORDERS, ((("zip",), 1000000),), ("zip",)), 17)
        self.assertEqual(query_bound(TRIPS, ((("planned", "start", "end"), 100),), ("end",)), 0)
        self.assertEqual(query_bound(TRIPS, certify(TRIPS), ("end", "start")), 24)

    def test_fixed_references(self):
        certificate = ((("shipped",), 14),)
        self.assertEqual(query_bound(ORDERS, certificate, ("shipped",)), 12)
        self.assertEqual(query_bound(ORDERS, certificate, ("shipped",), fixed=(("shipped", None),)), 14)

    def test_the_bound_of_the_pairs_that_meet(self):
        source = random.Random(138)
        for _ in range(60):
            table = random_table(source)
            names = random_names(source, table)
            places = [column[0] for column in table]
            fixed = named_fixed(source, table)
            by_place = tuple((places.index(name), None if other is None else places.index(other))
                             for name, other in fixed)
            certificate = named_pairs(source, table)
            met = tuple(pair for pair in certificate if set(pair[0]) & set(names))
            self.assertEqual(query_bound(table, certificate, names, fixed=fixed),
                             dual_bound(costs_of(table), numbered(table, met), fixed=by_place))


class RaisingTests(unittest.TestCase):

    def check_unknown(self, name, call, *arguments, **keywords):
        with self.assertRaises(UnknownColumn) as caught:
            call(*arguments, **keywords)
        self.assertEqual(caught.exception.name, name)

    def test_unknown_names(self):
        for call in (least_bytes, serving_plan):
            self.check_unknown("x", call, TRIPS, ("end", "x", "y"))
            self.check_unknown("End", call, TRIPS, ("End",))
            self.check_unknown("x", call, TRIPS, ("x",), fixed=(("y", "z"),))
            self.check_unknown("x", call, TRIPS, ("x",), fixed=(("end", "end"),))
            self.check_unknown("y", call, TRIPS, ("end",), fixed=(("end", "end"), ("start", "y"), ("z", None)))

    def test_all_at_once(self):
        certificate = ((("end", "u"), 1), (("v",), 1))
        self.check_unknown("u", query_bound, TRIPS, certificate, ("w", "x"), fixed=(("y", "z"),))
        self.check_unknown("u", query_bound, TRIPS, certificate, ("end",), fixed=(("end", "end"),))
        self.check_unknown("w", query_bound, TRIPS, certify(TRIPS), ("end", "w", "x"), fixed=(("y", "z"),))
        self.check_unknown("w", query_bound, TRIPS, (), ("w",), fixed=(("end", "end"),))
        self.check_unknown("y", query_bound, TRIPS, (), ("end",), fixed=(("y", "z"), ("end", "end")))
        self.check_unknown("z", query_bound, TRIPS, (), ("end",), fixed=(("end", "z"), ("y", None)))
        # A pair that does not meet the columns is checked, too.
        self.check_unknown("v", query_bound, TRIPS, ((("start",), 1), (("v",), 1)), ("end",))

    def test_circular_fixed_references(self):
        for fixed in ((("end", "end"),), (("end", "start"), ("start", "end"))):
            for call in (lambda **given: least_bytes(TRIPS, ("planned",), **given),
                         lambda **given: serving_plan(TRIPS, ("planned",), **given),
                         lambda **given: query_bound(TRIPS, (), ("planned",), **given),
                         lambda **given: query_bound(TRIPS, certify(TRIPS), ("planned",), **given)):
                with self.assertRaises(CircularReferences):
                    call(fixed=fixed)

    def test_fixed_is_passed_by_its_name(self):
        for call, arguments in ((least_bytes, (TRIPS, ("end",))), (serving_plan, (TRIPS, ("end",))),
                                (query_bound, (TRIPS, (), ("end",)))):
            with self.assertRaises(TypeError):
                call(*arguments, ())


if __name__ == "__main__":
    unittest.main()
