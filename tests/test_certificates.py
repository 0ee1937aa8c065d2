"""[140] to [143], [6]: certificates of tables, their bounds, what they prove, decisions, accounts of files."""

import random
import unittest

from slow_costs import random_pairs
from slow_files import ORDERS, SMALL, TRIPS, random_file, random_table
from slow_plans import named_fixed, named_pairs

from refpack.certificates import account_of, certify, decide, lower_bound, named, numbered, proves
from refpack.duals import dual_bound, dual_of, excess_of, load_of
from refpack.errors import BadFile, BadValues, CircularReferences, UnknownColumn
from refpack.packing import first_least_plan, least_size, pack
from refpack.pricing import costs_of
from refpack.reading import listed, read_file
from refpack.tables import header_size
from refpack.writing import encode, written

CERTIFICATE = (
    (("planned",), 12), (("start",), 11), (("end",), 11), (("start", "end"), 1), (("planned", "start", "end"), 1),
)
CHANGED = (("planned", None, (603, 590, 615, 605)), *TRIPS[1:])
EMPTY = (("a", None, ()), ("b", None, ()))


class CertifyTests(unittest.TestCase):

    def test_examples(self):
        self.assertEqual(certify(TRIPS), CERTIFICATE)
        self.assertEqual(certify(ORDERS), ((("zip",), 17), (("city",), 12), (("ordered",), 12), (("shipped",), 12),
                                           (("ordered", "shipped"), 2)))

    def test_edges(self):
        self.assertEqual(certify(EMPTY), ((("a",), 7), (("b",), 7)))
        self.assertEqual(certify((("a", None, (5, 6)),)), ((("a",), 12),))

    def test_fixed_references(self):
        self.assertEqual(certify(TRIPS, fixed=(("planned", "start"),)), (*CERTIFICATE[:4], (CERTIFICATE[4][0], 2)))
        self.assertEqual(certify(TRIPS, fixed=(("start", None), ("planned", None), ("end", None))),
                         ((("planned",), 13), (("start",), 14), (("end",), 14)))

    def test_names_are_in_the_order_of_the_table(self):
        table = (("z", None, (654, 650, 668, 657)), ("b", None, (603, 600, 615, 605)), ("a", None, (604, 600, 618, 607)))
        self.assertEqual([names for names, _ in certify(table) if len(names) > 1], [("z", "a"), ("z", "b", "a")])

    def test_its_bound_is_the_least_size(self):
        source = random.Random(141)
        for _ in range(60):
            table = random_table(source, 6)
            fixed = named_fixed(source, table)
            for some in ((), fixed):
                certificate = certify(table, fixed=some)
                size = header_size(table) + sum(amount for _, amount in certificate)
                self.assertEqual(size, least_size(table, fixed=some))
                self.assertEqual(lower_bound(table, certificate, fixed=some), size)
                names = [column[0] for column in table]
                places = tuple((names.index(name), None if other is None else names.index(other))
                               for name, other in some)
                self.assertEqual(numbered(table, certificate), dual_of(costs_of(table), fixed=places))


class NumberTests(unittest.TestCase):

    def test_numbered(self):
        self.assertEqual(numbered(TRIPS, CERTIFICATE), (((0,), 12), ((1,), 11), ((2,), 11), ((1, 2), 1), ((0, 1, 2), 1)))
        self.assertEqual(numbered(TRIPS, ((("end", "planned"), 5), (("start",), 0), (("planned", "end"), 5))),
                         (((0, 2), 5), ((1,), 0), ((0, 2), 5)))
        self.assertEqual(numbered(TRIPS, ()), ())

    def test_named(self):
        self.assertEqual(named(TRIPS, (((2, 0), 5), ((1,), 0), ((2, 1, 0), 7))),
                         ((("planned", "end"), 5), (("start",), 0), (("planned", "start", "end"), 7)))
        self.assertEqual(named(TRIPS, ()), ())

    def test_there_and_back(self):
        source = random.Random(140)
        for _ in range(60):
            table = random_table(source, 6)
            pairs = random_pairs(source, len(table))
            ordered = tuple((tuple(sorted(members)), amount) for members, amount in pairs)
            self.assertEqual(numbered(table, named(table, pairs)), ordered)
            self.assertEqual(named(table, numbered(table, named(table, pairs))), named(table, pairs))


class BoundTests(unittest.TestCase):

    def test_examples(self):
        self.assertEqual(lower_bound(TRIPS, certify(TRIPS)), 62)
        self.assertEqual(lower_bound(TRIPS, ()), 26)
        self.assertEqual(lower_bound(TRIPS, ((("end", "start"), 12),)), 38)
        self.assertEqual(lower_bound(TRIPS, ((("end", "start"), 14),)), 36)
        self.assertEqual(lower_bound(TRIPS, ((("planned", "start", "end"), 100),)), 26)
        self.assertEqual(lower_bound(CHANGED, certify(TRIPS)), 62)
        self.assertEqual(least_size(CHANGED), 64)

    def test_names_in_any_order(self):
        mixed = ((("end", "planned", "start"), 1), (("end", "start"), 1), (("start",), 11), (("end",), 11),
                 (("planned",), 12))
        self.assertEqual(lower_bound(TRIPS, mixed), 62)

    def test_of_another_table(self):
        other = (("end", ("no", "yes"), (0, 1)), ("planned", None, (5, 6)), ("x", None, (0, 0)), ("start", None, (5, 6)))
        certificate = certify(TRIPS)
        self.assertLessEqual(lower_bound(other, certificate), least_size(other))
        self.assertEqual(lower_bound(other, certificate), header_size(other) + dual_bound(
            costs_of(other), (((1,), 12), ((3,), 11), ((0,), 11), ((0, 3), 1), ((0, 1, 3), 1))))

    def test_fixed_references(self):
        self.assertEqual(lower_bound(TRIPS, certify(TRIPS), fixed=(("planned", "start"),)), 62)
        fixed = (("planned", None),)
        self.assertEqual(lower_bound(TRIPS, ((("planned",), 13),)), 26 + 12)
        self.assertEqual(lower_bound(TRIPS, ((("planned",), 13),), fixed=fixed), 26 + 13)

    def test_no_file_is_smaller(self):
        source = random.Random(142)
        for _ in range(100):
            table = random_table(source)
            numbers = random_file(source, table)
            plan = read_file(numbers)[1]
            fixed = tuple((column[0], recipe[1]) for column, recipe in zip(table, plan) if source.random() < 0.5)
            for certificate in (named_pairs(source, table), certify(table), certify(table, fixed=fixed)):
                self.assertLessEqual(lower_bound(table, certificate, fixed=fixed), len(numbers))
                self.assertLessEqual(lower_bound(table, certificate, fixed=fixed), least_size(table, fixed=fixed))
                self.assertLessEqual(lower_bound(table, certificate), least_size(table))


class ProofTests(unittest.TestCase):

    def test_edges(self):
        for size, expected in ((62, True), (63, False), (61, True), (0, True), (-5, True), (10 ** 29, False)):
            self.assertIs(proves(TRIPS, CERTIFICATE, size), expected)
        self.assertIs(proves(TRIPS, (), 26), True)
        self.assertIs(proves(TRIPS, (), 27), False)

    def test_fixed_references(self):
        fixed = (("planned", "start"),)
        certificate = certify(TRIPS, fixed=fixed)
        self.assertIs(proves(TRIPS, certificate, 63, fixed=fixed), True)
        self.assertIs(proves(TRIPS, certificate, 64, fixed=fixed), False)
        self.assertIs(proves(TRIPS, certificate, 63), False)


class DecisionTests(unittest.TestCase):

    def test_examples(self):
        self.assertEqual(decide(TRIPS, 61), (False, CERTIFICATE))
        self.assertEqual(decide(TRIPS, 62), (True, first_least_plan(TRIPS)))

    def test_edges(self):
        for size in (0, -1, -10 ** 29):
            self.assertEqual(decide(TRIPS, size), (False, CERTIFICATE))
        self.assertEqual(decide(TRIPS, 10 ** 29), (True, first_least_plan(TRIPS)))
        self.assertEqual(decide(EMPTY, 25), (True, (("dictionary", None, 0), ("dictionary", None, 0))))
        self.assertEqual(decide(EMPTY, 24), (False, ((("a",), 7), (("b",), 7))))
        self.assertIs(decide(TRIPS, 62)[0], True)
        self.assertIs(decide(TRIPS, 61)[0], False)

    def test_fixed_references(self):
        fixed = (("planned", "start"),)
        self.assertEqual(decide(TRIPS, 62, fixed=fixed), (False, certify(TRIPS, fixed=fixed)))
        self.assertEqual(decide(TRIPS, 63, fixed=fixed), (True, first_least_plan(TRIPS, fixed=fixed)))


class AccountTests(unittest.TestCase):

    def test_example(self):
        file = encode(TRIPS, (("frame", None, 4), ("frame", None, 5), ("offset", "start", 0)))
        self.assertEqual(account_of(file, CERTIFICATE), ((0, 1, 0), (0, 0, 0, 0, 1)))

    def test_the_smallest_file(self):
        self.assertEqual(account_of(pack(TRIPS), CERTIFICATE), ((0, 0, 0), (0, 0, 0, 0, 0)))
        self.assertEqual(account_of(pack(ORDERS), certify(ORDERS)), ((0,) * 4, (0,) * 5))

    def test_no_certificate(self):
        self.assertEqual(account_of(SMALL, ()), ((12,), ()))
        self.assertEqual(account_of(pack(TRIPS), ()), ((13, 12, 11), ()))

    def test_the_sections_that_the_file_has(self):
        # A patch and an entry that are not necessary: 10 bytes more than the smallest section.
        contents = (2, (("a", None, ("dictionary", None, 1), ((5, 6, 5), ((0, 5),), (0, 1))),))
        self.assertEqual(account_of(written(contents), ((("a",), 12),)), ((7 + 12 + 6 + 1 - 12,), (0,)))

    def test_excesses_and_names_in_any_order(self):
        file = encode(TRIPS, (("frame", None, 4), ("frame", None, 5), ("offset", "start", 0)))
        self.assertEqual(account_of(file, ((("end", "start"), 14),)), ((13, 2, 13), (0,)))
        self.assertEqual(account_of(file, ((("end", "planned"), 3), (("planned", "end"), 3))), ((7, 14, 5), (3, 3)))

    def test_it_adds_up(self):
        source = random.Random(143)
        spent = []
        for _ in range(120):
            table = random_table(source)
            numbers = random_file(source, table)
            certificate = source.choice((named_pairs(source, table), certify(table)))
            columns, pairs = account_of(numbers, certificate)
            costs = costs_of(table)
            some = numbered(table, certificate)
            excesses = [excess_of(costs, some, column) for column in range(len(table))]
            sizes = [row[7] for row in listed(numbers)]
            names = [column[0] for column in table]
            references = [None if row[2] is None else names.index(row[2]) for row in listed(numbers)]
            for column, reference in enumerate(references):
                load = load_of(some, column, reference)
                self.assertEqual(columns[column], sizes[column] - load + excesses[column])
            for (members, amount), element in zip(some, pairs):
                entering = [column for column in members if references[column] not in members]
                self.assertEqual(element, amount * (len(entering) - 1))
            self.assertGreaterEqual(min((*columns, *pairs)), 0)
            amounts = sum(amount for _, amount in certificate)
            self.assertEqual(len(numbers), header_size(table) + amounts - sum(excesses) + sum(columns) + sum(pairs))
            spent.append(any(columns) and any(pairs))
        self.assertIn(True, spent)


class RaisingTests(unittest.TestCase):

    def check_unknown(self, name, call, *arguments, **keywords):
        with self.assertRaises(UnknownColumn) as caught:
            call(*arguments, **keywords)
        self.assertEqual(caught.exception.name, name)

    def takers(self):
        """Each function that takes a certificate, as a function of the certificate and of fixed references."""
        return (
            lambda certificate, **fixed: lower_bound(TRIPS, certificate, **fixed),
            lambda certificate, **fixed: proves(TRIPS, certificate, 5, **fixed),
        )

    def test_unknown_names_of_certificates(self):
        certificate = ((("end", "start"), 1), (("planned", "x", "y"), 0), (("z",), 5))
        for taker in self.takers():
            self.check_unknown("x", taker, certificate)
            self.check_unknown("z", taker, (((("z",), 5),) + certificate))
        self.check_unknown("x", numbered, TRIPS, certificate)
        self.check_unknown("x", account_of, pack(TRIPS), certificate)
        self.check_unknown("End", numbered, TRIPS, ((("End",), 0),))

    def test_the_certificate_comes_before_fixed_references(self):
        certificate = ((("end", "x"), 1),)
        for taker in self.takers():
            self.check_unknown("x", taker, certificate, fixed=(("y", None),))
            self.check_unknown("x", taker, certificate, fixed=(("end", "end"),))
            self.check_unknown("y", taker, (), fixed=(("end", "end"), ("start", "y")))
            with self.assertRaises(CircularReferences):
                taker(CERTIFICATE, fixed=(("end", "end"),))

    def test_fixed_references(self):
        for call in (certify, lambda table, fixed: decide(table, 0, fixed=fixed),
                     lambda table, fixed: decide(table, 1000, fixed=fixed)):
            self.check_unknown("x", call, TRIPS, fixed=(("end", "end"), ("x", "y")))
            self.check_unknown("y", call, TRIPS, fixed=(("end", "y"), ("x", None)))
            with self.assertRaises(CircularReferences):
                call(TRIPS, fixed=(("end", "start"), ("start", "end")))

    def test_the_file_comes_before_the_certificate(self):
        certificate = ((("x",), 1),)
        with self.assertRaises(BadFile) as caught:
            account_of(SMALL[:-1], certificate)
        self.assertEqual((caught.exception.place, caught.exception.reason), (19, "end"))
        with self.assertRaises(BadValues):
            account_of((*SMALL[:13], 120, *SMALL[14:]), certificate)
        circular = written((0, (("a", None, ("lookup", 0, 0), ((), (), ())),)))
        with self.assertRaises(CircularReferences):
            account_of(circular, certificate)


if __name__ == "__main__":
    unittest.main()
