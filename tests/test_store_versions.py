"""Tests of nearvault.store: its versions, its pages and its steps (points 10, 19, 21 and 22)."""

import unittest

from nearvault.device import Device
from nearvault.errors import Conflict
from nearvault.log import read_groups
from nearvault.store import Store
from support import ZEROS, CheckedStore, RecordingDevice, appended, group_of, opened, page_of
from support import inner_of, leaf_of, metric_inner_of, metric_leaf_of

GREATEST = 2**32 - 1


class VersionsTest(unittest.TestCase):
    def setUp(self):
        self.begin(1, "sum")

    def begin(self, dimensions, metric):
        self.device = RecordingDevice()
        self.store = CheckedStore(self.device, dimensions, metric)

    def change(self, transaction, *changes):
        for change in changes:
            if isinstance(change, int):
                self.store.delete(transaction, change)
            else:
                self.store.put(transaction, *change)

    def commit(self, *changes):
        transaction = self.store.begin()
        self.change(transaction, *changes)
        return self.store.commit(transaction)

    def triples(self):
        """Return the key, begin and end of each version."""
        return [version[:3] for version in self.store.versions()]

    def items(self):
        """Return the items of the metric tree, which holds a leaf alone."""
        data = opened(self.device).read(2)
        self.assertIn(data[0], (0, 3))
        found = []
        for place in range(2, 2 + 10 * data[1], 10):
            key, begin, coordinate = (
                int.from_bytes(bytes(data[place + k:place + k + width]), "big") for k, width in ((0, 4), (4, 4), (8, 2))
            )
            found.append((key, begin, (coordinate - 32768,)))
        return found

    def check_pages(self, expected):
        pager = opened(self.device)
        for number, content in expected.items():
            self.assertEqual(pager.read(number), content, f"page {number}")


def put(key, place, payload=()):
    return (key, (place,), payload)


class NewStoreTest(VersionsTest):
    def test_the_pages_of_a_new_store(self):
        for dimensions in (1, 2, 8):
            for number, metric in enumerate(("sum", "greatest", "unlike")):
                self.begin(dimensions, metric)
                head = page_of(1, dimensions, number, 0, 1, 2, 3, 0)
                self.check_pages({0: head, 1: ZEROS, 2: ZEROS, 3: ZEROS})
                # The pager has committed the head and the two roots.
                group = group_of((0, head), (1, ZEROS), (2, ZEROS))
                self.assertEqual(self.device.take_asked(), appended(group) + ["sync log"])
                self.assertEqual(self.device.log(), group)

    def test_nothing_is_pending(self):
        self.assertEqual(self.device.pending(), (0, 0))


class CommitTest(VersionsTest):
    def test_versions_with_their_begins_and_ends_in_order(self):
        self.commit(put(5, 50, (1,)), put(3, 30))
        self.commit(put(5, 51, (2, 2)), put(9, 90), 77)
        self.commit(3, put(4, 40))
        self.commit(put(3, 31), put(5, 52))
        self.assertEqual(self.store.versions(), [
            (3, 1, 3, (30,), ()),
            (3, 4, 0, (31,), ()),
            (4, 3, 0, (40,), ()),
            (5, 1, 2, (50,), (1,)),
            (5, 2, 4, (51,), (2, 2)),
            (5, 4, 0, (52,), ()),
            (9, 2, 0, (90,), ()),
        ])
        # The items of the metric tree stand in the order of the commits and the keys.
        expected = [(3, 1, 30), (5, 1, 50), (5, 2, 51), (9, 2, 90), (4, 3, 40), (3, 4, 31), (5, 4, 52)]
        self.assertEqual(self.items(), [(key, begin, (place,)) for key, begin, place in expected])

    def test_the_pages_written_out(self):
        self.commit(put(5, 50, (1,)), put(3, 30))
        self.commit(put(5, 51), 3)
        self.check_pages({
            0: page_of(1, 1, 0, 2, 1, 2, 3, 0),
            1: leaf_of((3, 1, 2, (30,), ()), (5, 1, 2, (50,), (1,)), (5, 2, 0, (51,), ())),
            2: metric_leaf_of((3, 1, (30,)), (5, 1, (50,)), (5, 2, (51,))),
        })

    def test_changed_keys_in_ascending_order(self):
        self.commit(*[put(key, key) for key in (9, 2, 7, 1, 300, 5)])
        self.assertEqual([item[0] for item in self.items()], [1, 2, 5, 7, 9, 300])

    def test_new_pages_in_the_order_of_the_keys(self):
        # The key 9 splits the root of the metric tree, 14 one of its leaves, and
        # 16 the root of the key tree, which has 257 bytes then.
        self.commit(*[put(key, key) for key in range(17)])
        self.check_pages({
            1: inner_of((0, 1, 7), (8, 1, 6)),
            2: metric_inner_of(((0,), 4, 4), ((5,), 4, 3), ((14,), 4, 5)),
            3: metric_leaf_of(*[(key, 1, (key,)) for key in range(5, 10)]),
            4: metric_leaf_of(*[(key, 1, (key,)) for key in range(5)]),
            5: metric_leaf_of(*[(key, 1, (key,)) for key in range(10, 17)]),
            6: leaf_of(*[(key, 1, 0, (key,), ()) for key in range(8, 17)]),
            7: leaf_of(*[(key, 1, 0, (key,), ()) for key in range(8)]),
        })

    def test_a_group_with_the_changed_pages_alone(self):
        self.commit(put(5, 50, (1,)), put(3, 30))
        self.device.take_asked()
        # A replaced end changes no item of the metric tree.
        self.commit(3)
        group = group_of(
            (0, page_of(1, 1, 0, 2, 1, 2, 3, 0)),
            (1, leaf_of((3, 1, 2, (30,), ()), (5, 1, 0, (50,), (1,)))),
        )
        self.assertEqual(self.device.take_asked(), appended(group) + ["sync log"])
        # Deletions of keys that are not there change the head alone.
        self.assertEqual(self.commit(3, 4), 3)
        group = group_of((0, page_of(1, 1, 0, 3, 1, 2, 3, 0)))
        self.assertEqual(self.device.take_asked(), appended(group) + ["sync log"])

    def test_one_group_for_each_commit(self):
        self.commit(put(1, 1))
        self.commit(put(2, 2), put(1, 3))
        self.commit()
        transaction = self.store.begin()
        self.change(transaction, put(2, 5))
        self.commit(put(2, 4))
        with self.assertRaises(Conflict):
            self.store.commit(transaction)
        self.assertEqual(len(read_groups(self.device.log())), 1 + 3)

    def test_a_second_version_of_a_key_may_stand_in_another_leaf(self):
        for k in range(60):
            self.commit(put(7, k, (k,) * 30), put(k + 100, k))
        self.assertEqual(self.triples()[:60], [(7, k + 1, k + 2 if k < 59 else 0) for k in range(60)])
        transaction = self.store.begin()
        self.assertEqual(self.store.get(transaction, 7), put(7, 59, (59,) * 30))
        self.assertEqual(self.store.nearest(transaction, (59,), 2, 0, 99), [(0, 7, (59,), (59,) * 30)])
        self.assertEqual(self.store.between(transaction, 0, 99), [put(7, 59, (59,) * 30)])


class VacuumTest(VersionsTest):
    def fill(self):
        """Make versions that end at 2, 3 and 4, and two that do not end."""
        self.commit(put(1, 10), put(2, 20), put(3, 30))
        self.commit(put(1, 11))
        self.commit(2)
        self.commit(put(1, 12))
        self.assertEqual(self.triples(), [(1, 1, 2), (1, 2, 4), (1, 4, 0), (2, 1, 3), (3, 1, 0)])

    def test_without_transactions(self):
        self.fill()
        before = self.store.begin()
        records = self.store.between(before, 0, GREATEST)
        self.store.abort(before)
        self.assertEqual(self.store.vacuum(), 3)
        self.assertEqual(self.triples(), [(1, 4, 0), (3, 1, 0)])
        self.assertEqual(self.items(), [(3, 1, (30,)), (1, 4, (12,))])
        self.assertEqual(self.store.between(self.store.begin(), 0, GREATEST), records)
        self.assertEqual(self.store.last_commit(), 4)

    def test_with_transactions_of_each_snapshot(self):
        # Removed is what ends at the snapshot or before it.
        for snapshot, left in (
            (0, [(1, 1, 2), (1, 2, 4), (1, 4, 0), (2, 1, 3), (3, 1, 0)]),
            (1, [(1, 1, 2), (1, 2, 4), (1, 4, 0), (2, 1, 3), (3, 1, 0)]),
            (2, [(1, 2, 4), (1, 4, 0), (2, 1, 3), (3, 1, 0)]),
            (3, [(1, 2, 4), (1, 4, 0), (3, 1, 0)]),
            (4, [(1, 4, 0), (3, 1, 0)]),
        ):
            self.begin(1, "sum")
            opened_at = {}
            for changes in ([put(1, 10), put(2, 20), put(3, 30)], [put(1, 11)], [2], [put(1, 12)]):
                opened_at[self.store.last_commit()] = self.store.begin()
                self.commit(*changes)
            opened_at[4] = self.store.begin()
            for other, transaction in opened_at.items():
                if other < snapshot:
                    self.store.abort(transaction)
            seen = {other: self.seen(opened_at[other]) for other in range(snapshot, 5)}
            self.assertEqual(self.store.vacuum(), 5 - len(left), snapshot)
            self.assertEqual(self.triples(), left)
            self.assertEqual({other: self.seen(opened_at[other]) for other in range(snapshot, 5)}, seen)
            for other in range(snapshot, 5):
                self.store.commit(opened_at[other])
            self.assertEqual(self.store.vacuum(), len(left) - 2)
            self.assertEqual(self.triples(), [(1, 4, 0), (3, 1, 0)])

    def seen(self, transaction):
        return self.store.between(transaction, 0, GREATEST), self.store.nearest(transaction, (0,), 9, 0, GREATEST)

    def test_a_key_that_is_deleted_leaves_nothing(self):
        self.commit(put(1, 10), put(2, 20))
        self.commit(1, 2)
        self.assertEqual(self.store.vacuum(), 2)
        self.assertEqual(self.store.versions(), [])
        self.assertEqual(self.items(), [])
        self.check_pages({0: page_of(1, 1, 0, 2, 1, 2, 3, 0), 1: leaf_of(), 2: metric_leaf_of()})

    def test_the_pager_commits(self):
        self.fill()
        self.device.take_asked()
        self.store.vacuum()
        group = group_of(
            (1, leaf_of((1, 4, 0, (12,), ()), (3, 1, 0, (30,), ()))),
            (2, metric_leaf_of((3, 1, (30,)), (1, 4, (12,)))),
        )
        self.assertEqual(self.device.take_asked(), appended(group) + ["sync log"])

    def test_with_nothing_to_remove_there_is_no_step(self):
        self.device.take_asked()
        self.assertEqual(self.store.vacuum(), 0)
        self.fill()
        self.store.vacuum()
        self.device.take_asked()
        self.assertEqual(self.store.vacuum(), 0)
        self.store.begin()
        self.assertEqual(self.store.vacuum(), 0)
        self.assertEqual(self.device.take_asked(), [])

    def test_own_changes_stay_behind_a_vacuum(self):
        self.fill()
        transaction = self.store.begin()
        self.change(transaction, put(2, 21), 3, put(8, 80))
        self.assertEqual(self.store.vacuum(), 3)
        expected = [put(1, 12), put(2, 21), put(8, 80)]
        self.assertEqual(self.store.between(transaction, 0, GREATEST), expected)
        self.assertEqual(self.store.commit(transaction), 5)
        self.assertEqual(self.triples(), [(1, 4, 0), (2, 5, 0), (3, 1, 5), (8, 5, 0)])

    def test_the_transaction_that_refused_does_not_hold_anything(self):
        self.commit(put(1, 10))
        transaction = self.store.begin()
        self.change(transaction, put(1, 12))
        self.commit(put(1, 11))
        self.assertEqual(self.store.vacuum(), 0)
        with self.assertRaises(Conflict):
            self.store.commit(transaction)
        self.assertEqual(self.store.vacuum(), 1)

    def test_many_versions_in_many_pages(self):
        for dimensions, metric in ((1, "unlike"), (2, "greatest"), (8, "sum")):
            self.begin(dimensions, metric)
            for turn in range(4):
                self.commit(*[(k, (k * turn % 50,) * dimensions, (turn,) * 40) for k in range(turn, 60)])
            self.commit(*range(30))
            pages = opened(self.device).field(6)
            # Each key below 3 has as many versions as turns had put it.
            self.assertEqual(self.store.vacuum(), 1 + 2 + 3 + 57 * 4 - 30)
            self.assertEqual(self.triples(), [(k, 4, 0) for k in range(30, 60)])
            self.commit(*range(60))
            self.assertEqual(self.store.vacuum(), 30)
            self.assertEqual(self.triples(), [])
            # All but the head and the two roots are free.
            self.assertEqual(opened(self.device).field(6), pages)
            self.commit(*[(k, (k,) * dimensions, ()) for k in range(40)])
            self.assertEqual(opened(self.device).field(6), pages)


class CheckpointTest(VersionsTest):
    def test_with_something_committed(self):
        self.commit(put(1, 10))
        self.device.take_asked()
        pages = [opened(self.device).read(number) for number in range(3)]
        self.assertIsNone(self.store.checkpoint())
        writes = [("write", number, pages[number]) for number in range(3)]
        self.assertEqual(self.device.take_asked(), writes + ["sync pages", "clear", "sync log"])
        self.assertEqual(self.device.log(), [])
        self.assertEqual([self.device.page(number) for number in range(3)], pages)

    def test_with_nothing_committed(self):
        self.store.checkpoint()
        self.device.take_asked()
        self.assertIsNone(self.store.checkpoint())
        self.assertEqual(self.device.take_asked(), ["sync pages", "clear", "sync log"])

    def test_with_open_transactions(self):
        self.commit(put(1, 10))
        transaction = self.store.begin()
        self.change(transaction, put(2, 20))
        self.store.checkpoint()
        self.assertEqual(self.store.between(transaction, 0, 9), [put(1, 10), put(2, 20)])
        self.assertEqual(self.device.page(1), leaf_of((1, 1, 0, (10,), ())))
        self.assertEqual(self.store.commit(transaction), 2)
        self.store.checkpoint()
        self.assertEqual(self.device.page(1), leaf_of((1, 1, 0, (10,), ()), (2, 2, 0, (20,), ())))

    def test_only_the_pages_since_the_last_one(self):
        self.commit(*[put(k, k) for k in range(20)])
        self.store.checkpoint()
        self.commit(77)
        self.device.take_asked()
        self.store.checkpoint()
        numbers = [step[1] for step in self.device.take_asked() if step[0] == "write"]
        self.assertEqual(numbers, [0])


class SplitTest(unittest.TestCase):
    def test_a_metric_root_written_out(self):
        device = Device()
        store = Store(device, 1, "sum")
        transaction = store.begin()
        for key in range(10):
            store.put(transaction, key, (key * 10,), ())
        store.commit(transaction)
        pager = opened(device)
        self.assertEqual(pager.read(0), page_of(1, 1, 0, 1, 1, 2, 5, 0))
        self.assertEqual(pager.read(2), metric_inner_of(((0,), 40, 4), ((90,), 40, 3)))
        self.assertEqual(pager.read(4), metric_leaf_of(*[(key, 1, (key * 10,)) for key in range(5)]))
        self.assertEqual(pager.read(3), metric_leaf_of(*[(key, 1, (key * 10,)) for key in range(5, 10)]))
        self.assertEqual(pager.read(1), leaf_of(*[(key, 1, 0, (key * 10,), ()) for key in range(10)]))


if __name__ == "__main__":
    unittest.main()
