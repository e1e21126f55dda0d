"""Tests of nearvault.store: stores that are opened again, and WrongStore (points 9, 10 and 23)."""

import unittest

from nearvault.device import Device
from nearvault.errors import NoTransaction, WrongStore
from nearvault.store import Store
from support import ZEROS, CheckedStore, RecordingDevice, opened, page_of

GREATEST = 2**32 - 1
SHAPES = [(dimensions, metric) for dimensions in range(1, 9) for metric in ("sum", "greatest", "unlike")]


class OpeningTest(unittest.TestCase):
    def setUp(self):
        self.begin(2, "greatest")

    def begin(self, dimensions, metric):
        self.device = RecordingDevice()
        self.shape = (dimensions, metric)
        self.store = CheckedStore(self.device, dimensions, metric)

    def reopen(self):
        self.store = CheckedStore(self.device, *self.shape)

    def record(self, key, payload=()):
        return (key, (key % 11 - 5,) * self.shape[0], payload)

    def commit(self, *records):
        transaction = self.store.begin()
        for record in records:
            self.store.put(transaction, *record)
        return self.store.commit(transaction)

    def records(self):
        transaction = self.store.begin()
        found = self.store.between(transaction, 0, GREATEST)
        self.store.abort(transaction)
        return found

    def pages(self):
        """Return all pages, without an effect on the device."""
        pager = opened(self.device)
        return [pager.read(number) for number in range(pager.field(6) + 1)]


class SameShapeTest(OpeningTest):
    def test_the_records_and_the_last_commit_number(self):
        for shape in SHAPES:
            self.begin(*shape)
            records = [self.record(key, (key,) * 9) for key in range(30)]
            self.commit(*records[:20])
            self.commit(*records[20:])
            versions = self.store.versions()
            for how in ("as it is", "checkpoint", "crash"):
                with self.subTest(shape=shape, how=how):
                    if how == "checkpoint":
                        self.store.checkpoint()
                    if how == "crash":
                        self.device.crash([1, 0, 2], 0)
                    self.reopen()
                    self.assertEqual(self.records(), records)
                    self.assertEqual(self.store.versions(), versions)
                    self.assertEqual(self.store.last_commit(), 2)
                    self.assertEqual((self.store.dimensions, self.store.metric), shape)

    def test_the_first_transaction_is_1_again(self):
        for _ in range(3):
            self.assertEqual([self.store.begin(), self.store.begin()], [1, 2])
            self.reopen()

    def test_open_transactions_are_gone(self):
        self.commit(self.record(1))
        transaction = self.store.begin()
        self.store.put(transaction, *self.record(2))
        self.reopen()
        with self.assertRaises(NoTransaction):
            self.store.get(transaction, 2)
        self.assertEqual(self.records(), [self.record(1)])
        # The snapshot of the lost transaction holds no version.
        self.commit(self.record(1, (5,)))
        self.assertEqual(self.store.vacuum(), 1)

    def test_the_work_goes_on(self):
        for turn in range(12):
            keys = range(turn * 3, turn * 3 + 20)
            self.assertEqual(self.commit(*[self.record(key, (turn,)) for key in keys]), turn + 1)
            if turn % 3 == 0:
                self.store.checkpoint()
            if turn % 2 == 0:
                self.reopen()
            if turn % 5 == 0:
                self.store.vacuum()
        expected = [self.record(key, (min(key // 3, 11),)) for key in range(33 + 20)]
        self.assertEqual(self.records(), expected)

    def test_the_steps_of_an_opening(self):
        self.device.take_asked()
        pages = self.pages()
        self.commit(self.record(1))
        self.device.take_asked()
        pages = self.pages()
        self.reopen()
        writes = [("write", number, pages[number]) for number in range(3)]
        self.assertEqual(self.device.take_asked(), writes + ["sync pages", "clear", "sync log"])
        # The log is empty now.
        self.reopen()
        self.assertEqual(self.device.take_asked(), [])
        self.assertEqual(self.pages(), pages)

    def test_a_store_without_commits(self):
        for checkpoint in (False, True):
            self.begin(3, "unlike")
            if checkpoint:
                self.store.checkpoint()
            self.reopen()
            self.assertEqual(self.records(), [])
            self.assertEqual(self.store.last_commit(), 0)
            self.assertEqual(self.commit(self.record(5)), 1)

    def test_an_empty_device(self):
        self.device = RecordingDevice()
        self.reopen()
        self.assertEqual(self.pages(), [page_of(1, 2, 1, 0, 1, 2, 3, 0), ZEROS, ZEROS, ZEROS])

    def test_a_device_with_an_incomplete_group_is_empty(self):
        self.device = RecordingDevice()
        self.device.append([0, 0, 0, 1, 0, 0, 0])
        self.device.sync_log()
        self.reopen()
        self.assertEqual(self.records(), [])
        self.assertEqual(self.pages(), [page_of(1, 2, 1, 0, 1, 2, 3, 0), ZEROS, ZEROS, ZEROS])


class WrongStoreTest(OpeningTest):
    def check_wrong(self, dimensions, metric):
        pages = self.pages()
        for _ in range(2):
            with self.assertRaises(WrongStore):
                Store(self.device, dimensions, metric)
            self.assertEqual(self.pages(), pages)

    def test_other_dimensions_or_another_metric(self):
        for shape in SHAPES[::4]:
            self.begin(*shape)
            records = [self.record(key, (1, 2)) for key in range(25)]
            self.commit(*records)
            for other in SHAPES:
                if other != shape:
                    self.check_wrong(*other)
            self.reopen()
            self.assertEqual(self.records(), records)
            self.assertEqual(self.store.last_commit(), 1)

    def test_a_store_without_commits(self):
        self.check_wrong(3, "greatest")
        self.check_wrong(2, "sum")
        self.reopen()
        self.assertEqual(self.commit(self.record(1)), 1)

    def test_no_steps_but_those_of_the_opening(self):
        self.commit(self.record(1))
        self.device.take_asked()
        pages = self.pages()
        self.check_wrong(1, "greatest")
        writes = [("write", number, pages[number]) for number in range(3)]
        self.assertEqual(self.device.take_asked(), writes + ["sync pages", "clear", "sync log"])
        self.check_wrong(2, "unlike")
        self.assertEqual(self.device.take_asked(), [])
        # So no power is needed to tell that a store is another one.
        self.device.limit(0)
        self.check_wrong(2, "sum")

    def test_behind_a_crash(self):
        self.commit(self.record(1))
        self.device.crash([], 0)
        self.check_wrong(4, "sum")
        self.device.crash([1, 1, 1], 1)
        self.reopen()
        self.assertEqual(self.records(), [self.record(1)])


class OtherDevicesTest(unittest.TestCase):
    def test_stores_of_different_devices_have_nothing_in_common(self):
        stores = [CheckedStore(Device(), 1, "sum") for _ in range(3)]
        for k, store in enumerate(stores):
            for _ in range(k + 1):
                transaction = store.begin()
                store.put(transaction, k, (k,), ())
                store.commit(transaction)
        self.assertEqual([store.last_commit() for store in stores], [1, 2, 3])
        self.assertEqual([store.begin() for store in stores], [2, 3, 4])
        for k, store in enumerate(stores):
            self.assertEqual(store.between(store.begin(), 0, 9), [(k, (k,), ())])


if __name__ == "__main__":
    unittest.main()
