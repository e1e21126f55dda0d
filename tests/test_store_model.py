"""Tests of nearvault.store against a model of points 19 to 23: any calls in any order."""

import itertools
import random
import unittest

from nearvault.device import Device
from nearvault.errors import Conflict, NoTransaction
from support import CheckedStore, apart

GREATEST = 2**32 - 1
METRICS = ("sum", "greatest", "unlike")


class Model:
    """The versions as lists `[key, begin, end, point, payload]`, and the open transactions."""

    def __init__(self, metric):
        self.metric = metric
        self.last = 0
        self.versions = []
        self.begun = 0
        self.open = {}

    def begin(self):
        self.begun += 1
        self.open[self.begun] = (self.last, {})
        return self.begun

    def records(self, transaction):
        snapshot, changes = self.open[transaction]
        seen = {}
        for key, begin, end, point, payload in self.versions:
            if begin <= snapshot and not 0 < end <= snapshot:
                assert key not in seen
                seen[key] = (key, point, payload)
        seen.update(changes)
        return {key: record for key, record in seen.items() if record is not None}

    def between(self, transaction, low, high):
        return [record for key, record in sorted(self.records(transaction).items()) if low <= key <= high]

    def nearest(self, transaction, point, count, low, high):
        found = self.between(transaction, low, high)
        return sorted((apart(self.metric, record[1], point),) + record for record in found)[:count]

    def is_refused(self, transaction):
        snapshot, changes = self.open[transaction]
        return any(max(version[1], version[2]) > snapshot for version in self.versions if version[0] in changes)

    def commit(self, transaction):
        _, changes = self.open.pop(transaction)
        if changes:
            self.last += 1
        for key, record in changes.items():
            for version in self.versions:
                if version[0] == key and version[2] == 0:
                    version[2] = self.last
            if record is not None:
                self.versions.append([key, self.last, 0, record[1], record[2]])
        return self.last

    def vacuum(self):
        oldest = min([self.last] + [snapshot for snapshot, _ in self.open.values()])
        left = [version for version in self.versions if version[2] == 0 or version[2] > oldest]
        removed = len(self.versions) - len(left)
        self.versions = left
        return removed


class ModelTest(unittest.TestCase):
    def begin(self, dimensions, metric, keys, seed):
        self.chance = random.Random(seed)
        self.shape = (dimensions, metric)
        self.keys = keys
        self.device = Device()
        self.store = CheckedStore(self.device, dimensions, metric)
        self.model = Model(metric)

    def any_key(self):
        return self.chance.choice(self.keys)

    def any_point(self):
        greatest = self.chance.choice((3, 3, 40, 32767))
        return tuple(self.chance.randint(-greatest, greatest) for _ in range(self.shape[0]))

    def any_payload(self):
        return tuple(self.chance.choices(range(256), k=self.chance.choice((0, 1, 7, 40, 40))))

    def change(self, transaction):
        key = self.any_key()
        if self.chance.random() < 0.7:
            record = (key, self.any_point(), self.any_payload())
            self.store.put(transaction, *record)
        else:
            record = None
            self.store.delete(transaction, key)
        self.model.open[transaction][1][key] = record

    def read(self, transaction):
        self.assertEqual(self.store.snapshot(transaction), self.model.open[transaction][0])
        key = self.any_key()
        self.assertEqual(self.store.get(transaction, key), self.model.records(transaction).get(key))
        low, high = self.chance.choice(((0, GREATEST), (self.any_key(), self.any_key())))
        self.assertEqual(self.store.between(transaction, low, high), self.model.between(transaction, low, high))
        question = (transaction, self.any_point(), self.chance.choice((1, 2, 5, 300)), low, high)
        self.assertEqual(self.store.nearest(*question), self.model.nearest(*question))

    def commit(self, transaction):
        if self.model.is_refused(transaction):
            with self.assertRaises(Conflict):
                self.store.commit(transaction)
            del self.model.open[transaction]
        else:
            self.assertEqual(self.store.commit(transaction), self.model.commit(transaction))
        with self.assertRaises(NoTransaction):
            self.store.abort(transaction)

    def reopen(self):
        if self.chance.randrange(2):
            self.device.crash([1, 0, 2], 3)
        self.store = CheckedStore(self.device, *self.shape)
        self.model.begun = 0
        self.model.open = {}

    def turn(self):
        kind = self.chance.randrange(20)
        if kind < 3 or not self.model.open:
            self.assertEqual(self.store.begin(), self.model.begin())
            return
        transaction = self.chance.choice(list(self.model.open))
        if kind < 11:
            for _ in range(self.chance.choice((1, 2, 10))):
                self.change(transaction)
        elif kind < 15:
            self.read(transaction)
        elif kind < 17:
            self.commit(transaction)
        elif kind == 17 and self.chance.randrange(3) == 0:
            self.store.abort(transaction)
            del self.model.open[transaction]
        elif kind == 18 and self.chance.randrange(3) == 0:
            self.assertEqual(self.store.vacuum(), self.model.vacuum())
        elif kind == 19 and self.chance.randrange(3) == 0:
            self.chance.choice((self.store.checkpoint, self.store.checkpoint, self.reopen))()

    def check(self):
        self.assertEqual(self.store.last_commit(), self.model.last)
        self.assertEqual(self.store.versions(), sorted(tuple(version) for version in self.model.versions))

    def run_turns(self, turns):
        for _ in range(turns):
            self.turn()
            self.check()
        for transaction in list(self.model.open):
            self.read(transaction)

    def test_each_number_of_dimensions_and_each_metric(self):
        for dimensions, metric in itertools.product((1, 2, 3, 8), METRICS):
            with self.subTest(dimensions=dimensions, metric=metric):
                self.begin(dimensions, metric, range(40), dimensions)
                self.run_turns(220)

    def test_few_keys(self):
        for seed in range(8):
            with self.subTest(seed=seed):
                self.begin(2, METRICS[seed % 3], (0, 1, 5, 2**31, GREATEST), seed)
                self.run_turns(200)

    def test_many_keys(self):
        for seed in range(3):
            self.begin(seed + 1, METRICS[seed], range(0, 2**32, 2**24), seed)
            self.run_turns(250)


if __name__ == "__main__":
    unittest.main()
