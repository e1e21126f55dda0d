"""Tests of nearvault.store: what transactions see, change and refuse (points 19 to 21)."""

import itertools
import unittest

from nearvault.device import Device
from nearvault.errors import Conflict, NoTransaction
from nearvault.store import Store
from support import CheckedStore, RecordingDevice

GREATEST = 2**32 - 1
FULL = tuple(range(40))


class StoreTest(unittest.TestCase):
    def setUp(self):
        self.begin(2, "sum")

    def begin(self, dimensions, metric):
        self.device = RecordingDevice()
        self.store = CheckedStore(self.device, dimensions, metric)

    def commit(self, *changes):
        """Commit records, or keys to be deleted, and return what the commit returns."""
        transaction = self.store.begin()
        self.change(transaction, *changes)
        return self.store.commit(transaction)

    def change(self, transaction, *changes):
        for change in changes:
            if isinstance(change, int):
                self.assertIsNone(self.store.delete(transaction, change))
            else:
                self.assertIsNone(self.store.put(transaction, *change))

    def records(self, transaction=None):
        """Return all records that a transaction sees, or a new one."""
        if transaction is not None:
            return self.store.between(transaction, 0, GREATEST)
        transaction = self.store.begin()
        found = self.store.between(transaction, 0, GREATEST)
        self.store.abort(transaction)
        return found


A = (1, (0, 0), (1, 2, 3))
B = (5, (3, -4), ())
C = (9, (32767, -32768), FULL)
OTHER_B = (5, (100, 100), (7,))


class TransactionTest(StoreTest):
    def test_attributes(self):
        self.assertEqual((self.store.dimensions, self.store.metric), (2, "sum"))
        self.begin(8, "unlike")
        self.assertEqual((self.store.dimensions, self.store.metric), (8, "unlike"))

    def test_transactions_are_numbered(self):
        self.assertEqual([self.store.begin() for _ in range(3)], [1, 2, 3])
        self.store.abort(2)
        self.store.commit(1)
        self.assertEqual(self.store.begin(), 4)
        self.commit(A)
        self.assertEqual(self.store.begin(), 6)

    def test_snapshots(self):
        self.assertEqual(self.store.last_commit(), 0)
        first = self.store.begin()
        self.commit(A)
        second = self.store.begin()
        self.commit(B)
        self.assertEqual([self.store.snapshot(first), self.store.snapshot(second)], [0, 1])
        self.assertEqual(self.store.last_commit(), 2)
        self.assertEqual(self.store.snapshot(self.store.begin()), 2)

    def test_a_store_without_records(self):
        transaction = self.store.begin()
        self.assertIsNone(self.store.get(transaction, 5))
        self.assertEqual(self.store.between(transaction, 0, GREATEST), [])
        self.assertEqual(self.store.nearest(transaction, (0, 0), 3, 0, GREATEST), [])
        self.assertEqual(self.store.versions(), [])

    def test_put_and_get(self):
        self.assertEqual(self.commit(A, B, C), 1)
        transaction = self.store.begin()
        self.assertEqual([self.store.get(transaction, key) for key in (1, 5, 9)], [A, B, C])
        for key in (0, 2, 4, 6, 10, GREATEST):
            self.assertIsNone(self.store.get(transaction, key))
        self.assertEqual(self.records(), [A, B, C])

    def test_put_again_takes_the_place(self):
        self.commit(A, B)
        self.assertEqual(self.commit(OTHER_B), 2)
        self.assertEqual(self.records(), [A, OTHER_B])
        # Twice in one transaction: the last one counts.
        self.assertEqual(self.commit(B, C, OTHER_B, B), 3)
        self.assertEqual(self.records(), [A, B, C])
        self.assertEqual(len(self.store.versions()), 5)

    def test_put_of_the_same_record(self):
        self.commit(A)
        self.assertEqual(self.commit(A), 2)
        self.assertEqual(self.records(), [A])
        self.assertEqual([version[:3] for version in self.store.versions()], [(1, 1, 2), (1, 2, 0)])

    def test_delete(self):
        self.commit(A, B, C)
        self.assertEqual(self.commit(5), 2)
        self.assertEqual(self.records(), [A, C])
        self.assertEqual(self.commit(1, 9, 5, 77), 3)
        self.assertEqual(self.records(), [])
        self.assertEqual(self.commit(B), 4)
        self.assertEqual(self.records(), [B])

    def test_put_behind_delete_and_delete_behind_put(self):
        self.commit(A, B)
        self.commit(1, A, OTHER_B, 5, C, 9, 33, (33, (1, 1), ()))
        self.assertEqual(self.records(), [A, (33, (1, 1), ())])

    def test_a_delete_of_a_key_that_is_not_there(self):
        self.commit(A)
        before = self.store.versions()
        self.assertEqual(self.commit(7), 2)
        self.assertEqual(self.commit(0, 2, GREATEST), 3)
        self.assertEqual(self.store.last_commit(), 3)
        self.assertEqual(self.store.versions(), before)
        self.assertEqual(self.records(), [A])

    def test_a_transaction_without_changes(self):
        self.commit(A)
        self.device.take_asked()
        transaction = self.store.begin()
        self.store.get(transaction, 1)
        self.commit(B)
        self.device.take_asked()
        # It returns the last commit number, not its snapshot.
        self.assertEqual(self.store.commit(transaction), 2)
        self.assertEqual(self.device.take_asked(), [])
        self.assertEqual(self.store.last_commit(), 2)
        with self.assertRaises(NoTransaction):
            self.store.snapshot(transaction)

    def test_an_abort(self):
        self.commit(A, B)
        transaction = self.store.begin()
        self.change(transaction, OTHER_B, C, 1)
        self.assertIsNone(self.store.abort(transaction))
        self.assertEqual(self.records(), [A, B])
        self.assertEqual(self.store.last_commit(), 1)
        self.assertEqual(self.commit(5), 2)
        self.assertEqual(self.records(), [A])

    def test_keys_points_and_payloads_of_the_greatest_size(self):
        for dimensions in (1, 2, 8):
            self.begin(dimensions, "greatest")
            ends = (-32768, 32767)
            records = [
                (0, (-32768,) * dimensions, (255,) * 40),
                (1, (32767,) * dimensions, (0,) * 40),
                (2**31, tuple(ends[k % 2] for k in range(dimensions)), ()),
                (GREATEST - 1, (0,) * dimensions, (0,)),
                (GREATEST, (-1,) * dimensions, FULL),
            ]
            self.commit(*records)
            self.assertEqual(self.records(), records)
            transaction = self.store.begin()
            found = self.store.nearest(transaction, (32767,) * dimensions, 9, 0, GREATEST)
            self.assertEqual(found[0], (0,) + records[1])
            self.assertEqual(found[-1][0], 65535)
            self.assertEqual(len(found), 5)

    def test_many_records_with_full_payloads(self):
        self.begin(8, "sum")
        records = [(k * 1000003 % 2**32, tuple(k * j % 999 for j in range(8)), (k,) * 40) for k in range(60)]
        self.commit(*records)
        self.assertEqual(self.records(), sorted(records))


class RangeTest(StoreTest):
    KEYS = (0, 1, 5, 6, 7, 100, GREATEST - 1, GREATEST)

    def record(self, key):
        return (key, (key % 7, -key % 5), (key % 256,))

    def check(self, transaction, keys):
        for low, high in itertools.product((0, 1, 2, 5, 7, 8, 99, 100, 101, GREATEST - 1, GREATEST), repeat=2):
            expected = [self.record(key) for key in sorted(keys) if low <= key <= high]
            self.assertEqual(self.store.store.between(transaction, low, high), expected)

    def test_ranges_of_committed_records(self):
        self.commit(*[self.record(key) for key in reversed(self.KEYS)])
        self.check(self.store.begin(), self.KEYS)

    def test_ranges_of_own_records(self):
        transaction = self.store.begin()
        self.change(transaction, *[self.record(key) for key in reversed(self.KEYS)])
        self.check(transaction, self.KEYS)

    def test_ranges_of_both(self):
        self.commit(*[self.record(key) for key in self.KEYS[::2]], (6, (0, 0), ()), (100, (9, 9), (9,)))
        transaction = self.store.begin()
        self.change(transaction, *[self.record(key) for key in self.KEYS[1::2]], 0, GREATEST - 1, 44)
        self.check(transaction, set(self.KEYS) - {0, GREATEST - 1})

    def test_ranges_over_many_leaves(self):
        self.commit(*[self.record(key) for key in range(0, 300, 3)])
        transaction = self.store.begin()
        for low, high in ((0, 299), (0, 0), (1, 2), (3, 3), (10, 200), (50, 49), (297, GREATEST)):
            expected = [self.record(key) for key in range(0, 300, 3) if low <= key <= high]
            self.assertEqual(self.store.between(transaction, low, high), expected)


class OwnChangesTest(StoreTest):
    def setUp(self):
        super().setUp()
        self.commit(A, B)
        self.mine = self.store.begin()
        self.other = self.store.begin()
        self.change(self.mine, OTHER_B, C, 1, 77)

    def test_they_are_seen_before_the_commit(self):
        self.assertEqual(self.records(self.mine), [OTHER_B, C])
        self.assertEqual([self.store.get(self.mine, key) for key in (1, 5, 9, 77)], [None, OTHER_B, C, None])
        found = self.store.nearest(self.mine, (0, 0), 5, 0, GREATEST)
        self.assertEqual(found, [(200,) + OTHER_B, (65535,) + C])

    def test_no_other_transaction_sees_them(self):
        for transaction in (self.other, self.store.begin()):
            self.assertEqual(self.records(transaction), [A, B])
            self.assertEqual(self.store.get(transaction, 5), B)
            self.assertIsNone(self.store.get(transaction, 9))
            found = self.store.nearest(transaction, (0, 0), 5, 0, GREATEST)
            self.assertEqual(found, [(0,) + A, (7,) + B])

    def test_behind_the_commit_the_snapshots_stay(self):
        self.assertEqual(self.store.commit(self.mine), 2)
        self.assertEqual(self.records(self.other), [A, B])
        self.assertEqual(self.store.nearest(self.other, (0, 0), 1, 0, GREATEST), [(0,) + A])
        self.assertEqual(self.records(), [OTHER_B, C])

    def test_own_changes_are_changed(self):
        self.change(self.mine, 5, A, (9, (1, 1), ()))
        self.assertEqual(self.records(self.mine), [A, (9, (1, 1), ())])
        self.change(self.mine, 1, 9, B)
        self.assertEqual(self.records(self.mine), [B])

    def test_several_snapshots(self):
        opened = [self.store.begin()]
        expected = [[A, B]]
        for change, records in ((C, [A, B, C]), (OTHER_B, [A, OTHER_B, C]), (1, [OTHER_B, C]), (A, [A, OTHER_B, C])):
            self.commit(change)
            opened.append(self.store.begin())
            expected.append(records)
        for transaction, records in zip(opened, expected):
            self.assertEqual(self.records(transaction), records)
            for record in records:
                self.assertEqual(self.store.get(transaction, record[0]), record)
            rows = [(abs(record[1][0]) + abs(record[1][1]),) + record for record in records]
            self.assertEqual(self.store.nearest(transaction, (0, 0), 9, 0, GREATEST), sorted(rows))


class NearestTest(StoreTest):
    def setUp(self):
        super().setUp()
        # A cross of points around (0, 0), with equal distances and equal points.
        self.placed = [(k, [(k, 0), (0, k), (-k, 0), (0, -k)][k % 4], (k,)) for k in range(40)]
        self.placed += [(k + 100, point, ()) for k, point, _ in self.placed[::3]]
        self.commit(*self.placed)

    def scan(self, records, point, count, low, high):
        rows = [(abs(r[1][0] - point[0]) + abs(r[1][1] - point[1]),) + r for r in records if low <= r[0] <= high]
        return sorted(rows)[:count]

    def check(self, transaction, records):
        for point, count in itertools.product(((0, 0), (3, 4), (-20, 5)), (1, 2, 10, 53, 54, 255)):
            for low, high in ((0, GREATEST), (10, 30), (20, 110), (7, 7), (60, 70), (30, 10)):
                found = self.store.store.nearest(transaction, point, count, low, high)
                self.assertEqual(found, self.scan(records, point, count, low, high))

    def test_counts_and_ranges(self):
        self.check(self.store.begin(), self.placed)

    def test_with_own_changes(self):
        transaction = self.store.begin()
        records = {record[0]: record for record in self.placed}
        for key in range(0, 40, 5):
            self.store.delete(transaction, key)
            del records[key]
        for key in (1, 2, 12, 55, 200):
            records[key] = (key, (0, key % 4), (9, 9))
            self.store.put(transaction, *records[key])
        self.check(transaction, list(records.values()))
        self.store.commit(transaction)
        self.check(self.store.begin(), list(records.values()))

    def test_older_versions_are_not_seen(self):
        before = self.store.begin()
        self.commit(*[(key, (500, 500), ()) for key in range(20)], *range(20, 30))
        self.check(before, self.placed)
        moved = [(key, (500, 500), ()) for key in range(20)] + [r for r in self.placed if r[0] >= 30]
        self.check(self.store.begin(), moved)

    def test_equal_distances_in_the_order_of_keys_with_own_records(self):
        transaction = self.store.begin()
        for key in (300, 50, 6):
            self.store.put(transaction, key, (0, 4), ())
        found = self.store.nearest(transaction, (0, 0), 8, 4, GREATEST)
        self.assertEqual([row[:2] for row in found[:3]], [(0, 100), (3, 103), (4, 4)])
        self.assertEqual([row[:2] for row in found[3:]], [(4, 6), (4, 50), (4, 300), (5, 5), (6, 106)])

    def test_each_metric(self):
        for metric, expected in (("sum", [3, 1, 2]), ("greatest", [3, 2, 1]), ("unlike", [1, 2, 3])):
            self.begin(3, metric)
            self.commit((1, (0, 0, 8), ()), (2, (-3, 0, -6), ()), (3, (2, 1, 4), (5,)))
            found = self.store.nearest(self.store.begin(), (0, 0, 0), 3, 0, GREATEST)
            self.assertEqual([row[1] for row in found], expected)
        self.assertEqual(found, [(1, 1, (0, 0, 8), ()), (2, 2, (-3, 0, -6), ()), (3, 3, (2, 1, 4), (5,))])


class ConflictTest(StoreTest):
    def setUp(self):
        super().setUp()
        self.commit(A, B)
        self.mine = self.store.begin()

    def check_refused(self, records):
        versions = self.store.versions()
        last = self.store.last_commit()
        self.device.take_asked()
        with self.assertRaises(Conflict):
            self.store.commit(self.mine)
        self.assertEqual(self.device.take_asked(), [])
        self.assertEqual(self.store.last_commit(), last)
        self.assertEqual(self.store.versions(), versions)
        self.assertEqual(self.records(), records)
        with self.assertRaises(NoTransaction):
            self.store.commit(self.mine)
        # Nothing of the refused transaction is in the next commit.
        self.assertEqual(self.commit((77, (1, 1), ())), last + 1)
        self.assertEqual(self.records(), sorted(records + [(77, (1, 1), ())]))

    def test_another_commit_put_a_changed_key(self):
        for change in ((9, (1, 1), ()), 9):
            self.setUp()
            self.change(self.mine, change)
            self.commit(C)
            self.check_refused([A, B, C])

    def test_another_commit_replaced_a_changed_key(self):
        for change in ((5, (1, 1), ()), 5, B):
            self.setUp()
            self.change(self.mine, change)
            self.commit(OTHER_B)
            self.check_refused([A, OTHER_B])

    def test_another_commit_deleted_a_changed_key(self):
        for change in ((5, (1, 1), ()), 5, B):
            self.setUp()
            self.change(self.mine, change)
            self.commit(5)
            self.check_refused([A])

    def test_a_key_that_was_put_and_deleted_behind_the_snapshot(self):
        self.change(self.mine, (9, (1, 1), ()))
        self.commit(C)
        self.commit(9)
        self.check_refused([A, B])

    def test_one_of_several_changed_keys(self):
        for changes in ((C, OTHER_B, (33, (1, 1), ())), (1, 5), (5, A, C)):
            self.setUp()
            self.change(self.mine, *changes)
            self.commit(5, 44)
            self.check_refused([A])

    def test_a_vacuum_leaves_what_a_conflict_is_told_by(self):
        self.change(self.mine, OTHER_B)
        self.commit(5)
        self.assertEqual(self.store.vacuum(), 0)
        self.check_refused([A])

    def test_other_keys(self):
        self.change(self.mine, OTHER_B, C)
        self.commit(1)
        self.commit((4, (0, 0), ()), (6, (0, 0), ()), 8, 10)
        self.assertEqual(self.store.commit(self.mine), 4)
        self.assertEqual(self.records(), [(4, (0, 0), ()), OTHER_B, (6, (0, 0), ()), C])

    def test_keys_that_were_only_read(self):
        self.store.get(self.mine, 5)
        self.store.between(self.mine, 0, GREATEST)
        self.change(self.mine, C)
        self.commit(OTHER_B, 1)
        self.assertEqual(self.store.commit(self.mine), 3)
        self.assertEqual(self.records(), [OTHER_B, C])

    def test_a_deletion_of_a_key_that_was_not_there_leaves_no_version(self):
        self.change(self.mine, C)
        self.commit(9)
        self.assertEqual(self.store.commit(self.mine), 3)
        self.assertEqual(self.records(), [A, B, C])

    def test_an_aborted_transaction_is_in_nobodys_way(self):
        other = self.store.begin()
        self.change(other, OTHER_B)
        self.change(self.mine, 5)
        self.store.abort(other)
        self.assertEqual(self.store.commit(self.mine), 2)

    def test_what_was_committed_up_to_the_snapshot(self):
        self.commit(OTHER_B)
        self.commit(1)
        later = self.store.begin()
        self.change(later, B, A)
        self.assertEqual(self.store.commit(later), 4)
        self.assertEqual(self.records(), [A, B])

    def test_the_second_of_two_is_refused(self):
        others = [self.store.begin() for _ in range(3)]
        for k, transaction in enumerate(others):
            self.change(transaction, (5, (k, k), ()))
        self.assertEqual(self.store.commit(others[1]), 2)
        for transaction in (others[0], others[2]):
            with self.assertRaises(Conflict):
                self.store.commit(transaction)
        self.assertEqual(self.records(), [A, (5, (1, 1), ())])


class NoTransactionTest(StoreTest):
    def check_each_method(self, transaction):
        calls = {
            "snapshot": (), "put": A, "delete": (1,), "abort": (), "get": (1,), "between": (0, 9),
            "nearest": ((0, 0), 1, 0, 9), "commit": (),
        }
        self.device.take_asked()
        for name, arguments in calls.items():
            with self.subTest(name=name, transaction=transaction):
                with self.assertRaises(NoTransaction):
                    getattr(self.store, name)(transaction, *arguments)
        self.assertEqual(self.device.take_asked(), [])

    def test_never_begun(self):
        for transaction in (0, 1, 2, -1, 10**9):
            self.check_each_method(transaction)
        self.store.begin()
        self.check_each_method(2)

    def test_committed(self):
        first, second = self.store.begin(), self.store.begin()
        self.change(first, A)
        self.store.commit(first)
        self.store.commit(second)
        self.check_each_method(first)
        self.check_each_method(second)
        self.assertEqual(self.records(), [A])

    def test_refused(self):
        transaction = self.store.begin()
        self.change(transaction, A)
        self.commit(A)
        with self.assertRaises(Conflict):
            self.store.commit(transaction)
        self.check_each_method(transaction)

    def test_aborted(self):
        transaction = self.store.begin()
        self.change(transaction, A)
        self.store.abort(transaction)
        self.check_each_method(transaction)
        self.assertEqual(self.records(), [])

    def test_the_others_stay_open(self):
        first, second = self.store.begin(), self.store.begin()
        self.store.abort(first)
        self.change(second, A)
        self.assertEqual(self.records(second), [A])
        self.assertEqual(self.store.commit(second), 1)


class HandedOutTest(StoreTest):
    def test_lists_may_be_changed_by_the_caller(self):
        self.commit(A, B)
        transaction = self.store.begin()
        self.change(transaction, C)
        for _ in range(2):
            handed = [
                self.store.between(transaction, 0, GREATEST),
                self.store.nearest(transaction, (0, 0), 9, 0, GREATEST),
                self.store.versions(),
            ]
            self.assertEqual([len(rows) for rows in handed], [3, 3, 2])
            for rows in handed:
                rows.reverse()
                rows.pop()
                rows.append(None)
        self.store.commit(transaction)
        self.assertEqual(self.records(), [A, B, C])

    def test_kinds_of_values(self):
        self.commit(A, B)
        transaction = self.store.begin()
        rows = self.store.between(transaction, 0, 9) + self.store.nearest(transaction, (0, 0), 2, 0, 9)
        for row in rows + self.store.versions() + [self.store.get(transaction, 1)]:
            self.assertIs(type(row), tuple)
            self.assertIs(type(row[-1]), tuple)
            self.assertIs(type(row[-2]), tuple)


class BeyondTest(unittest.TestCase):
    """What goes somewhat beyond the limits raises no error."""

    def run_turns(self, dimensions, metric, keys, places, lengths):
        store = Store(Device(), dimensions, metric)
        for turn in range(30):
            transaction = store.begin()
            for k in range(turn, turn + 7):
                point = tuple(places[(k * 3 + j) % len(places)] for j in range(dimensions))
                store.put(transaction, keys[k % len(keys)], point, (k,) * lengths[k % len(lengths)])
            store.delete(transaction, keys[turn * 5 % len(keys)])
            store.get(transaction, keys[0])
            store.between(transaction, -1, 2**33)
            store.nearest(transaction, point, 500, -1, 2**33)
            self.assertEqual(store.commit(transaction), turn + 1)
            store.nearest(store.begin(), point, 500, -1, 2**33)
            if turn % 4 == 0:
                store.vacuum()

    def test_keys(self):
        for keys in (range(2**32 - 3, 2**32 + 9), range(-9, 9)):
            self.run_turns(2, "sum", keys, (0, 1, 5), (0, 7))

    def test_coordinates(self):
        for metric in ("sum", "greatest", "unlike"):
            self.run_turns(2, metric, range(20), (32766, 32767, 32768, 32790, -32768, -32769, -32780), (0, 7))

    def test_payloads(self):
        for dimensions in (1, 8):
            self.run_turns(dimensions, "sum", range(20), (0, 1, 5), (0, 40, 41, 50))

    def test_dimensions(self):
        self.run_turns(9, "greatest", range(20), (0, 1, 5), (0, 40))

    def test_a_payload_of_41_bytes_is_kept(self):
        store = Store(Device(), 2, "sum")
        transaction = store.begin()
        store.put(transaction, 1, (0, 0), tuple(range(41)))
        store.commit(transaction)
        self.assertEqual(store.get(store.begin(), 1), (1, (0, 0), tuple(range(41))))

    def test_a_count_of_0(self):
        store = Store(Device(), 2, "sum")
        transaction = store.begin()
        store.put(transaction, 1, (0, 0), ())
        store.commit(transaction)
        transaction = store.begin()
        store.put(transaction, 2, (0, 0), ())
        for count in (0, -1):
            self.assertEqual(store.nearest(transaction, (0, 0), count, 0, 9), [])


class PowerlessTest(StoreTest):
    def test_reading_beginning_changing_and_aborting_use_no_power(self):
        self.commit(A, B)
        self.device.take_asked()
        self.device.limit(0)
        transaction, other = self.store.begin(), self.store.begin()
        self.change(transaction, OTHER_B, C, 1)
        self.assertEqual(self.records(transaction), [OTHER_B, C])
        self.assertEqual(self.store.get(other, 5), B)
        self.assertEqual(len(self.store.nearest(transaction, (0, 0), 9, 0, GREATEST)), 2)
        self.assertEqual(self.store.snapshot(transaction), 1)
        self.assertEqual(self.store.last_commit(), 1)
        self.assertEqual(len(self.store.versions()), 2)
        self.assertEqual(self.store.vacuum(), 0)
        self.assertEqual(self.store.commit(other), 1)
        self.store.abort(transaction)
        self.assertEqual(self.device.take_asked(), [])


if __name__ == "__main__":
    unittest.main()
