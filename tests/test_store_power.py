"""Tests of falls of power for the whole store (points 5, 6, 11, 23 and 27).

Each test performs a scenario once for each number of steps that power may be
limited to, lets the device crash in several ways, and opens the store again.
"""

import itertools
import random
import unittest

from nearvault.device import Device
from nearvault.errors import PowerCut
from nearvault.store import Store
from support import CheckedStore, is_cut

GREATEST = 2**32 - 1
ALL = 10**6
SHAPE = (2, "sum")


def record(key, payload=()):
    return (key, (key * 37 % 101 - 50, key % 7), payload)


def commit(store, records, deleted=()):
    transaction = store.begin()
    for row in records:
        store.put(transaction, *row)
    for key in deleted:
        store.delete(transaction, key)
    return store.commit(transaction)


def state(store):
    """Return the last commit number and the records."""
    transaction = store.begin()
    found = (store.last_commit(), store.between(transaction, 0, GREATEST))
    store.abort(transaction)
    return found


def ways_to_crash(allowed):
    """Return some of the ways in which a device may crash behind so many steps, in turn."""
    kept = (0, 1, allowed // 2, allowed, ALL)[allowed % 5]
    fates = ([], [1, 2, 0], [2, 2, 2], [0, 1, 1, 2])[allowed % 4]
    return fates, kept


class PowerTest(unittest.TestCase):
    def begin(self, many=4):
        """Make a store with records, some of which were replaced or deleted."""
        self.device = Device()
        self.store = Store(self.device, *SHAPE)
        commit(self.store, [record(key) for key in range(many)])
        self.store.checkpoint()
        commit(self.store, [record(key, (1, 2)) for key in range(0, many, 2)], [1, 77])
        self.old = state(self.store)

    def steps_of(self, method):
        """Return how many steps a call takes."""
        before = self.device.steps()
        method()
        return self.device.steps() - before

    def fall(self, method, allowed, fates, kept):
        """Let power fall behind so many steps of a call, and the device crash."""
        self.device.limit(allowed)
        self.assertTrue(is_cut(method), allowed)
        # From then on there is no power for anything.
        self.assertTrue(is_cut(self.device.sync_pages))
        self.device.crash(fates, kept)

    def check_opening(self, *allowed):
        """Check that the next openings give one of the allowed states, and that the work goes on."""
        found = state(CheckedStore(self.device, *SHAPE))
        self.assertIn(found, allowed)
        self.device.crash([], 0)
        store = CheckedStore(self.device, *SHAPE)
        self.assertEqual(state(store), found)
        self.assertEqual(store.begin(), 2)
        self.check_going_on(store, *found)
        return found

    def check_going_on(self, store, last, records):
        self.assertEqual(commit(store, [record(500, (5,))]), last + 1)
        store.vacuum()
        self.device.crash([], 0)
        store = CheckedStore(self.device, *SHAPE)
        self.assertEqual(state(store), (last + 1, records + [record(500, (5,))]))
        self.assertEqual(commit(store, [], [row[0] for row in records] + [600]), last + 2)
        self.assertEqual(store.vacuum(), len(records))
        store.checkpoint()
        self.assertEqual(store.versions(), [(500, last + 1, 0) + record(500, (5,))[1:]])


class NewStoreTest(PowerTest):
    def make(self):
        Store(self.device, *SHAPE)

    def test_each_step(self):
        self.device = Device()
        self.assertEqual(self.steps_of(self.make), 4 + 3 * 260 + 1)
        for allowed in range(785):
            self.device = Device()
            self.fall(self.make, allowed, *ways_to_crash(allowed))
            self.check_opening((0, []))

    def test_the_shape_is_open_until_the_store_is_made(self):
        for allowed, kept in itertools.product((0, 1, 300, 783, 784), (0, 783, 784, ALL)):
            self.device = Device()
            self.fall(lambda: Store(self.device, 5, "unlike"), allowed, [], kept)
            if allowed == 784 and kept >= 784:
                store = CheckedStore(self.device, 5, "unlike")
            else:
                self.check_opening((0, []))
                store = CheckedStore(self.device, *SHAPE)
            self.assertIn(store.last_commit(), (0, 2))

    def test_twice_in_a_row(self):
        for first, second in itertools.product((0, 5, 300, 783, 784), (0, 1, 2, 3, 5, 6, 400, 784, 786)):
            for kept in (0, ALL):
                self.device = Device()
                self.fall(self.make, first, [], kept)
                self.device.limit(second)
                is_cut(self.make)
                self.device.crash([2, 1], kept)
                self.check_opening((0, []))


class CommitTest(PowerTest):
    def change(self):
        commit(self.store, [record(0, (9, 9, 9)), record(6, (7,) * 40)], [2, 8])

    def test_each_step(self):
        self.begin()
        steps = self.steps_of(self.change)
        new = state(self.store)
        self.assertEqual(steps, 4 + 3 * 260 + 1)
        for allowed in range(steps):
            fates, kept = ways_to_crash(allowed)
            self.begin()
            self.fall(self.change, allowed, fates, kept)
            # Only a group that is whole takes effect.
            whole = allowed == steps - 1 and kept >= steps - 1
            self.check_opening(new if whole else self.old)

    def test_the_last_steps_with_any_number_of_kept_steps(self):
        self.begin()
        steps = self.steps_of(self.change)
        new = state(self.store)
        found = []
        for allowed, kept in itertools.product(range(steps - 4, steps), (0, 100, *range(steps - 5, steps + 2), ALL)):
            self.begin()
            self.fall(self.change, allowed, [1], kept)
            found.append(self.check_opening(self.old, new))
            self.assertEqual(found[-1] == new, allowed == steps - 1 and kept >= steps - 1)
        self.assertIn(new, found)

    def test_a_commit_that_returned(self):
        self.begin()
        steps = self.steps_of(self.change)
        for kept in (0, 1, ALL):
            self.begin()
            self.device.limit(steps)
            self.assertFalse(is_cut(self.change))
            new = state(self.store)
            self.assertNotEqual(new, self.old)
            self.device.crash([], kept)
            self.check_opening(new)

    def test_a_commit_of_many_pages(self):
        def change():
            commit(self.store, [record(key, (key,) * 20) for key in range(10, 60)], range(5))

        self.begin(30)
        steps = self.steps_of(change)
        new = state(self.store)
        self.assertGreater(steps, 260 * 20)
        for allowed in [*range(0, steps, 529), *range(steps - 3, steps)]:
            for kept in (0, allowed // 3, ALL):
                self.begin(30)
                self.fall(change, allowed, [], kept)
                self.check_opening(self.old, new)

    def test_a_fall_in_the_opening_behind_it(self):
        self.begin()
        steps = self.steps_of(self.change)
        new = state(self.store)
        for allowed, second, kept in itertools.product((0, 4, 500, steps - 1), range(6), (0, 1)):
            for fates in ([2, 2, 2], [0, 1, 2], [1, 1, 1], []):
                self.begin()
                self.fall(self.change, allowed, [], ALL)
                self.fall(lambda: Store(self.device, *SHAPE), second, fates, kept)
                self.check_opening(new if allowed == steps - 1 else self.old)


class VacuumTest(PowerTest):
    def test_each_step(self):
        self.begin()
        steps = self.steps_of(lambda: self.assertEqual(self.store.vacuum(), 3))
        self.assertEqual(steps, 4 + 2 * 260 + 1)
        left = []
        for allowed in range(steps):
            self.begin()
            versions = self.store.versions()
            self.fall(self.store.vacuum, allowed, *ways_to_crash(allowed))
            store = CheckedStore(self.device, *SHAPE)
            left.append(store.versions())
            self.assertIn(left[-1], (versions, [version for version in versions if version[2] == 0]))
            # The records are the same, whether the versions were removed or not.
            self.check_opening(self.old)
        self.assertEqual(left[0], versions)

    def test_the_last_step(self):
        for kept, left in ((0, 6), (523, 6), (524, 3), (ALL, 3)):
            self.begin()
            self.fall(self.store.vacuum, 524, [], kept)
            self.assertEqual(len(CheckedStore(self.device, *SHAPE).versions()), left)
            self.check_opening(self.old)

    def test_a_vacuum_of_many_pages(self):
        self.begin(40)
        steps = self.steps_of(self.store.vacuum)
        for allowed in [*range(0, steps, 301), *range(steps - 3, steps)]:
            for kept in (0, ALL):
                self.begin(40)
                self.fall(self.store.vacuum, allowed, [], kept)
                self.check_opening(self.old)


class CheckpointTest(PowerTest):
    def test_each_step_with_each_fate(self):
        self.begin()
        steps = self.steps_of(self.store.checkpoint)
        self.assertEqual(steps, 3 + 3)
        for allowed in range(steps):
            for fates in itertools.product((0, 1, 2), repeat=min(allowed, 3)):
                for kept in (0, 1, ALL):
                    self.begin()
                    self.fall(self.store.checkpoint, allowed, list(fates), kept)
                    self.check_opening(self.old)

    def test_a_checkpoint_that_returned(self):
        for fates, kept in itertools.product(([], [0, 2, 1], [1]), (0, ALL)):
            self.begin()
            self.device.limit(6)
            self.assertFalse(is_cut(self.store.checkpoint))
            self.device.crash(fates, kept)
            self.check_opening(self.old)

    def test_a_checkpoint_of_many_pages(self):
        self.begin(60)
        steps = self.steps_of(self.store.checkpoint)
        self.assertGreater(steps, 20)
        chance = random.Random(1)
        for allowed in range(steps):
            self.begin(60)
            self.fall(self.store.checkpoint, allowed, chance.choices((0, 1, 2), k=steps), allowed % 2)
            self.check_opening(self.old)

    def test_a_commit_behind_it_is_cut_off(self):
        for allowed in range(265):
            self.begin()
            self.store.checkpoint()
            # Its only page is the head.
            self.fall(lambda: commit(self.store, [], [77]), allowed, [], ALL)
            last, records = self.old
            self.check_opening((last + 1, records) if allowed == 264 else self.old)

    def test_twice_in_a_row(self):
        for first, second in itertools.product(range(6), repeat=2):
            self.begin()
            self.fall(self.store.checkpoint, first, [2, 0, 1], 0)
            # The log still has its groups, as the first clearing was lost.
            self.fall(lambda: Store(self.device, *SHAPE), second, [1, 2, 2], second % 2)
            self.check_opening(self.old)


class OpeningTest(PowerTest):
    def reopen(self):
        Store(self.device, *SHAPE)

    def test_each_step_with_each_fate(self):
        self.begin()
        self.assertEqual(self.steps_of(self.reopen), 6)
        for allowed in range(6):
            for fates in itertools.product((0, 1, 2), repeat=min(allowed, 3)):
                for kept in (0, 1):
                    self.begin()
                    self.fall(self.reopen, allowed, list(fates), kept)
                    self.check_opening(self.old)

    def test_three_times_in_a_row(self):
        for falls in itertools.product(range(6), repeat=3):
            self.begin()
            for k, allowed in enumerate(falls):
                self.fall(self.reopen, allowed, [(allowed + k) % 3, 2, k], 0)
            self.check_opening(self.old)

    def test_an_opening_that_returned(self):
        self.begin()
        self.device.limit(6)
        self.assertFalse(is_cut(self.reopen))
        self.device.crash([0, 0, 0], 0)
        # Nothing is left to be done: this one needs no power.
        self.device.limit(0)
        self.assertFalse(is_cut(self.reopen))
        self.device.limit(None)
        self.check_opening(self.old)

    def test_without_a_crash_what_is_pending_takes_effect(self):
        for allowed in range(6):
            self.begin()
            self.device.limit(allowed)
            self.assertTrue(is_cut(self.reopen))
            self.device.limit(None)
            self.check_opening(self.old)


class ManyFallsTest(unittest.TestCase):
    """Any calls in any order, with falls of power in between."""

    def open_with_falls(self, chance, device, shape):
        """Open a store, with falls of power before it succeeds."""
        for _ in range(chance.randrange(4)):
            device.limit(chance.randrange(12))
            if is_cut(Store, device, *shape):
                device.crash(chance.choices((0, 1, 2), k=30), chance.choice((0, 1, 500)))
        device.limit(None)
        return CheckedStore(device, *shape)

    def run_turns(self, seed):
        chance = random.Random(seed)
        shape = (chance.choice((1, 2, 8)), chance.choice(("sum", "greatest", "unlike")))
        device = Device()
        store = CheckedStore(device, *shape)
        old = new = (0, {})
        for turn in range(40):
            device.limit(chance.choice((None, None, 0, 2, 5, 784, chance.randrange(4000))))
            records = dict(old[1])
            try:
                transaction = store.begin()
                for key in chance.sample(range(60), chance.choice((1, 3, 25))):
                    records[key] = (key, tuple(chance.randrange(-9, 9) for _ in range(shape[0])), (turn,) * 3)
                    store.put(transaction, *records[key])
                for key in chance.sample(range(60), chance.choice((0, 1, 10, 40))):
                    records.pop(key, None)
                    store.delete(transaction, key)
                new = (old[0] + 1, records)
                store.commit(transaction)
                old = new
                for _ in range(chance.randrange(3)):
                    chance.choice((store.vacuum, store.checkpoint))()
                if chance.randrange(4) == 0:
                    store = CheckedStore(device, *shape)
            except PowerCut:
                device.crash(chance.choices((0, 1, 2), k=30), chance.choice((0, 3, 800, ALL)))
                store = self.open_with_falls(chance, device, shape)
            found = state(store)
            self.assertIn(found, [(last, sorted(rows.values())) for last, rows in (old, new)], (seed, turn))
            old = (found[0], {row[0]: row for row in found[1]})

    def test_many_turns(self):
        for seed in range(25):
            self.run_turns(seed)


if __name__ == "__main__":
    unittest.main()
