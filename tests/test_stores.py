"""[210] to [214]: stores, steps, undoing, limits, stores from files."""

import random
import unittest

from slow_files import ORDERS, SMALL, TRIPS, random_file, random_table
from test_changes import random_changes

from refpack.certificates import account_of, certify, lower_bound
from refpack.changes import changed
from refpack.errors import (
    BadFile, BadValues, CircularReferences, NoRow, NothingToUndo, TooManyRows, UnknownColumn, WrongCell,
)
from refpack.packing import first_least_plan, least_size, pack
from refpack.plans import file_size
from refpack.reading import read_file
from refpack.stores import Store
from refpack.tables import rows_of
from refpack.writing import encode, written

LATER = (("set", 4, "shipped", 20120),)
FULL = (("a", None, (5,) * 24),)


def state_of(store):
    """Everything that can be seen of a store."""
    return (store.table, store.plan, store.certificate, store.slack, store.file, store.account, len(store),
            tuple(store))


def slack_of(table, plan, certificate):
    return file_size(table, plan) - lower_bound(table, certificate)


class ExampleTests(unittest.TestCase):

    def test_of_the_first_pages(self):
        store = Store(ORDERS)
        self.assertEqual(store.apply(LATER), 6)
        self.assertEqual(store.repack(), 3)
        self.assertEqual(store.undo(), 1)

    def test_of_the_interface(self):
        store = Store(ORDERS)
        self.assertEqual(store.slack, 0)
        self.assertEqual(store.tried(LATER), 6)
        self.assertEqual(store.set_cell(4, "shipped", 20120), 6)
        self.assertEqual(len(store.file), 109)
        self.assertEqual(store.account, ((0, 0, 0, 6), (0, 0, 0, 0, 0)))
        with self.assertRaises(NoRow) as caught:
            store.apply((("append", (80331, "Munich", 20105, 20107)), ("remove", 7)))
        self.assertEqual(caught.exception.row, 7)
        self.assertEqual(store.repack(), 3)
        self.assertEqual(store.slack, 0)
        self.assertEqual(len(store), 2)
        self.assertEqual(store.undo(), 1)
        self.assertEqual(store.slack, 6)
        self.assertEqual(tuple(store)[4], (80331, "Munich", 20102, 20120))
        self.assertEqual(Store(ORDERS, limit=5).set_cell(4, "shipped", 20120), 0)


class NewStoreTests(unittest.TestCase):

    def test_of_a_table(self):
        source = random.Random(211)
        for _ in range(20):
            table = random_table(source)
            for store in (Store(table), Store(table, limit=0), Store(table, keep=0), Store(table, limit=9, keep=1)):
                self.assertEqual(state_of(store), (
                    table, first_least_plan(table), certify(table), 0, pack(table),
                    account_of(pack(table), certify(table)), 0, rows_of(table)))

    def test_keywords(self):
        with self.assertRaises(TypeError):
            Store(ORDERS, 5)
        with self.assertRaises(TypeError):
            Store.opened(pack(ORDERS), 5)

    def test_properties_cannot_be_assigned(self):
        store = Store(TRIPS)
        for name in ("table", "plan", "certificate", "slack", "file", "account"):
            with self.assertRaises(AttributeError):
                setattr(store, name, None)

    def test_the_account(self):
        store = Store(ORDERS)
        store.apply(LATER)
        self.assertEqual(store.account, account_of(store.file, store.certificate))
        self.assertEqual(sum(store.account[0]) + sum(store.account[1]), store.slack)

    def test_no_rows(self):
        store = Store((("a", None, ()), ("b", ("x",), ())))
        self.assertEqual(tuple(store), ())
        self.assertEqual(store.append_row((5, "x")), store.slack)
        self.assertEqual(tuple(store), ((5, "x"),))


class StepTests(unittest.TestCase):

    def test_single_changes(self):
        table = (("a", None, (1, 2, 3)), ("b", ("no", "yes"), (0, 1, 0)))
        calls = (
            (lambda store: store.set_cell(1, "b", "no"), ("set", 1, "b", "no")),
            (lambda store: store.append_row((9, "yes")), ("append", (9, "yes"))),
            (lambda store: store.insert_row(1, (900, "yes")), ("insert", 1, (900, "yes"))),
            (lambda store: store.remove_row(0), ("remove", 0)),
        )
        for call, change in calls:
            one, two = Store(table), Store(table)
            self.assertEqual(call(one), two.apply((change,)))
            self.assertEqual(state_of(one), state_of(two))
            self.assertEqual(one.table, changed(table, (change,)))
            self.assertEqual(len(one), 1)

    def test_applying_leaves_plan_and_certificate(self):
        store = Store(ORDERS)
        before = store.plan, store.certificate
        self.assertEqual(store.apply((*LATER, ("append", (1, "Munich", 20105, 20107)), ("remove", 0))), store.slack)
        self.assertEqual((store.plan, store.certificate), before)
        self.assertEqual(store.slack, slack_of(store.table, *before))

    def test_an_empty_step(self):
        store = Store(ORDERS)
        self.assertEqual(store.apply(()), 0)
        self.assertEqual(len(store), 1)
        store.apply(LATER)
        self.assertEqual(store.apply(()), 6)
        self.assertEqual(len(store), 3)

    def test_repacking_without_need_is_a_step(self):
        store = Store(ORDERS)
        self.assertEqual(store.repack(), 0)
        self.assertEqual(len(store), 1)
        self.assertEqual(store.undo(), 0)
        self.assertEqual(store.slack, 0)

    def test_renewing(self):
        store = Store(ORDERS)
        store.apply(LATER)
        plan = store.plan
        self.assertEqual(store.renew(), 3)
        self.assertEqual(store.slack, 3)
        self.assertEqual(store.plan, plan)
        self.assertEqual(store.certificate, certify(store.table))
        self.assertEqual(len(store), 2)
        self.assertEqual(store.repack(), 3)
        self.assertEqual(store.slack, 0)
        self.assertEqual([store.undo(), store.undo(), store.undo()], [2, 1, 0])
        self.assertEqual(store.certificate, certify(ORDERS))

    def test_undoing(self):
        store = Store(ORDERS)
        states = []
        for step in (lambda: store.apply(LATER), store.renew, store.repack, lambda: store.remove_row(0),
                     lambda: store.apply(())):
            states.append(state_of(store))
            step()
        while states:
            self.assertEqual(store.undo(), len(states) - 1)
            self.assertEqual(state_of(store), states.pop())
        with self.assertRaises(NothingToUndo):
            store.undo()
        self.assertEqual(state_of(store), state_of(Store(ORDERS)))

    def test_undoing_is_no_step(self):
        store = Store(ORDERS, keep=1)
        store.apply(LATER)
        store.undo()
        self.assertEqual(len(store), 0)
        with self.assertRaises(NothingToUndo):
            store.undo()
        self.assertEqual(store.table, ORDERS)


class HistoryTests(unittest.TestCase):

    def test_nothing_is_kept(self):
        store = Store(ORDERS, keep=0)
        store.apply(LATER)
        store.repack()
        self.assertEqual(len(store), 0)
        with self.assertRaises(NothingToUndo):
            store.undo()
        self.assertEqual(store.table, changed(ORDERS, LATER))

    def test_the_oldest_entry_is_dropped(self):
        for keep in (1, 2, 30):
            store = Store(FULL, keep=keep)
            for number in range(keep + 3):
                store.set_cell(0, "a", number)
                self.assertEqual(len(store), min(number + 1, keep))
            for number in reversed(range(keep)):
                self.assertEqual(store.undo(), number)
                self.assertEqual(tuple(store)[0], (number + 2,))
            with self.assertRaises(NothingToUndo):
                store.undo()
            self.assertEqual(tuple(store)[0], (2,))

    def test_30_are_kept_if_nothing_is_told(self):
        for store in (Store(FULL), Store.opened(pack(FULL))):
            for number in range(33):
                store.set_cell(0, "a", number)
            self.assertEqual(len(store), 30)

    def test_after_an_undo_history_goes_on(self):
        store = Store(FULL, keep=2)
        for number in (1, 2, 3):
            store.set_cell(0, "a", number)
        store.undo()
        store.set_cell(0, "a", 7)
        self.assertEqual(len(store), 2)
        self.assertEqual((store.undo(), tuple(store)[0]), (1, (2,)))
        self.assertEqual((store.undo(), tuple(store)[0]), (0, (1,)))


class TriedTests(unittest.TestCase):

    def test_nothing_changes(self):
        for store in (Store(ORDERS), Store(ORDERS, limit=0), Store(ORDERS, limit=5, keep=1)):
            store.renew()
            before = state_of(store)
            slack = store.tried(LATER)
            self.assertEqual(state_of(store), before)
            self.assertEqual(store.apply(LATER), slack)
        self.assertEqual(Store(ORDERS, limit=5).tried(LATER), 0)
        self.assertEqual(Store(ORDERS, limit=6).tried(LATER), 6)
        self.assertEqual(Store(ORDERS).tried(()), 0)

    def test_errors(self):
        store = Store(ORDERS)
        with self.assertRaises(NoRow):
            store.tried((*LATER, ("remove", 6)))
        self.assertEqual(state_of(store), state_of(Store(ORDERS)))


class RaisingTests(unittest.TestCase):

    def test_a_call_that_raises_changes_nothing(self):
        store = Store(ORDERS, keep=1)
        store.apply(LATER)
        before = state_of(store)
        row = (1, "Berlin", 2, 3)
        calls = (
            (NoRow, lambda: store.set_cell(6, "zip", 1)), (UnknownColumn, lambda: store.set_cell(0, "Zip", 1)),
            (WrongCell, lambda: store.set_cell(0, "city", 1)), (WrongCell, lambda: store.append_row((1, 2, 3, 4))),
            (NoRow, lambda: store.insert_row(7, row)), (NoRow, lambda: store.remove_row(-1)),
            (WrongCell, lambda: store.insert_row(6, (1, "", 3, 4))),
            (TooManyRows, lambda: store.apply((("append", row),) * 19)),
            (NoRow, lambda: store.apply((("remove", 0), ("remove", 5)))),
        )
        for error, call in calls:
            with self.assertRaises(error):
                call()
            self.assertEqual(state_of(store), before)
        full = Store(FULL)
        with self.assertRaises(TooManyRows):
            full.append_row((5,))
        with self.assertRaises(TooManyRows):
            full.insert_row(24, (5,))
        self.assertEqual(state_of(full), state_of(Store(FULL)))


class LimitTests(unittest.TestCase):

    def test_a_step_that_repacks(self):
        store = Store(ORDERS, limit=5)
        before = state_of(store)
        self.assertEqual(store.apply(LATER), 0)
        self.assertEqual(len(store), 1)
        table = changed(ORDERS, LATER)
        self.assertEqual((store.table, store.plan, store.certificate),
                         (table, first_least_plan(table), certify(table)))
        self.assertEqual(len(store.file), 106)
        self.assertEqual(store.undo(), 0)
        self.assertEqual(state_of(store), before)

    def test_at_the_limit(self):
        for limit, slack in ((None, 6), (7, 6), (6, 6), (5, 0), (0, 0), (10 ** 29, 6)):
            store = Store(ORDERS, limit=limit)
            self.assertEqual(store.tried(LATER), slack)
            self.assertEqual(store.apply(LATER), slack)
            self.assertEqual(store.slack, slack)

    def test_the_limit_of_0(self):
        source = random.Random(213)
        for _ in range(10):
            table = random_table(source, 3)
            store = Store(table, limit=0)
            for _ in range(3):
                self.assertEqual(store.apply(random_changes(source, store.table)), 0)
                self.assertEqual(len(store.file), least_size(store.table))


class OpenedTests(unittest.TestCase):

    PLAN = (("frame", None, 4), ("frame", None, 5), ("offset", "start", 0))

    def test_without_a_limit(self):
        store = Store.opened(encode(TRIPS, self.PLAN))
        self.assertEqual((store.table, store.plan, store.certificate), (TRIPS, self.PLAN, certify(TRIPS)))
        self.assertEqual(store.slack, 2)
        self.assertEqual(len(store), 0)
        self.assertEqual(tuple(store), rows_of(TRIPS))
        self.assertIsInstance(store, Store)

    def test_with_a_limit(self):
        for limit in (2, 3):
            self.assertEqual(Store.opened(encode(TRIPS, self.PLAN), limit=limit).plan, self.PLAN)
        for limit in (0, 1):
            store = Store.opened(encode(TRIPS, self.PLAN), limit=limit)
            self.assertEqual(state_of(store), state_of(Store(TRIPS)))
            with self.assertRaises(NothingToUndo):
                store.undo()

    def test_limit_and_history_are_kept(self):
        store = Store.opened(pack(ORDERS), limit=5, keep=1)
        self.assertEqual(store.apply(LATER), 0)
        store.apply(())
        self.assertEqual(len(store), 1)
        self.assertEqual(Store.opened(pack(ORDERS), limit=6).apply(LATER), 6)

    def test_the_file_can_be_smaller(self):
        contents = (2, (("a", None, ("frame", None, 1), ((5,), ((0, 5),), (0, 1))),))
        store = Store.opened(written(contents), limit=0)
        self.assertEqual(store.file, SMALL)
        self.assertEqual(store.slack, 0)

    def test_wrong_files(self):
        with self.assertRaises(BadFile) as caught:
            Store.opened(SMALL[:15], limit=3)
        self.assertEqual((caught.exception.place, caught.exception.reason), (15, "end"))
        with self.assertRaises(BadValues):
            Store.opened((*SMALL[:13], 120, *SMALL[14:]))
        with self.assertRaises(CircularReferences):
            Store.opened(written((0, (("a", None, ("lookup", 0, 0), ((), (), ())),))))

    def test_any_files(self):
        source = random.Random(212)
        for _ in range(40):
            table = random_table(source, 3)
            numbers = random_file(source, table)
            limit = source.choice((None, 0, 3, 40))
            store = Store.opened(numbers, limit=limit)
            plan = read_file(numbers)[1]
            slack = slack_of(table, plan, certify(table))
            if limit is not None and slack > limit:
                plan, slack = first_least_plan(table), 0
            self.assertEqual((store.table, store.plan, store.certificate, store.slack, store.file, len(store)),
                             (table, plan, certify(table), slack, encode(table, plan), 0))


class ModelTests(unittest.TestCase):

    def step(self, source, store, model, limit):
        """One random step of the store and of the model, a list of states whose last one is the current one."""
        table, plan, certificate = model[-1]
        word = source.choice(("apply", "apply", "repack", "renew", "undo"))
        if word == "apply":
            changes = random_changes(source, table)
            table = changed(table, changes)
            slack = slack_of(table, plan, certificate)
            if limit is not None and slack > limit:
                plan, certificate, slack = first_least_plan(table), certify(table), 0
            self.assertEqual(store.tried(changes), slack)
            self.assertEqual(store.apply(changes), slack)
            model.append((table, plan, certificate))
        elif word == "repack":
            least = first_least_plan(table)
            self.assertEqual(store.repack(), file_size(table, plan) - file_size(table, least))
            model.append((table, least, certify(table)))
        elif word == "renew":
            self.assertEqual(store.renew(), file_size(table, plan) - least_size(table))
            model.append((table, plan, certify(table)))
        elif len(model) == 1:
            with self.assertRaises(NothingToUndo):
                store.undo()
        else:
            model.pop()
            self.assertEqual(store.undo(), len(model) - 1)

    def test_two_stores_side_by_side(self):
        source = random.Random(214)
        for _ in range(10):
            table = random_table(source, 3)
            stores = []
            for limit, keep in ((source.choice((None, 0, 4)), 30), (source.choice((None, 9)), 2)):
                model = [(table, first_least_plan(table), certify(table))]
                stores.append((Store(table, limit=limit, keep=keep), model, limit, keep))
            for _ in range(12):
                store, model, limit, keep = source.choice(stores)
                self.step(source, store, model, limit)
                del model[:-keep - 1]
                for store, model, limit, keep in stores:
                    self.assertEqual((store.table, store.plan, store.certificate), model[-1])
                    self.assertEqual(len(store), len(model) - 1)
                    self.assertEqual(store.slack, slack_of(*model[-1]))
                    self.assertEqual(tuple(store), rows_of(store.table))
                    self.assertEqual(store.file, encode(store.table, store.plan))
                    if limit is not None:
                        self.assertLessEqual(len(store.file) - least_size(store.table), limit)


if __name__ == "__main__":
    unittest.main()
