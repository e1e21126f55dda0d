"""The store: records in versions, which transactions read and change."""

from nearvault.errors import Conflict, NoTransaction, WrongStore
from nearvault.keytree import KeyTree
from nearvault.metrictree import MetricTree
from nearvault.pager import DIMENSIONS, EMPTY_DEVICE, FORMAT, FORMAT_NUMBER, KEY_ROOT, LAST_COMMIT, METRIC, METRIC_ROOT
from nearvault.pager import Pager
from nearvault.points import METRICS, distance

GREATEST_KEY = 4294967295


def sees(snapshot, entry):
    """Return whether a transaction with this snapshot sees a version."""
    begin, end = entry[1:3]
    return begin <= snapshot and (end == 0 or end > snapshot)


def is_newer(snapshot, entry):
    """Return whether a version was made, replaced or deleted behind a snapshot."""
    begin, end = entry[1:3]
    return begin > snapshot or end > snapshot


class Store:
    """The records of a device, with the transactions that are open."""

    def __init__(self, device, dimensions, metric):
        self.dimensions = dimensions
        self.metric = metric
        self._pager = Pager(device)
        if self._pager.field(FORMAT) == EMPTY_DEVICE:
            self._make_new()
        shape = (self._pager.field(DIMENSIONS), self._pager.field(METRIC))
        if shape != (dimensions, METRICS.index(metric)):
            raise WrongStore()
        self._key_tree = KeyTree(self._pager, self._pager.field(KEY_ROOT), dimensions)
        self._metric_tree = MetricTree(self._pager, self._pager.field(METRIC_ROOT), dimensions, metric)
        self._last_transaction = 0
        # Both have the open transactions as their keys. The changes of one are a
        # dict from keys to records, or to None where the key is deleted.
        self._snapshots = {}
        self._changes = {}

    def begin(self):
        """Return a new transaction."""
        self._last_transaction += 1
        self._snapshots[self._last_transaction] = self.last_commit()
        self._changes[self._last_transaction] = {}
        return self._last_transaction

    def snapshot(self, transaction):
        """Return the last commit number at the beginning of a transaction."""
        self._need(transaction)
        return self._snapshots[transaction]

    def put(self, transaction, key, point, payload):
        """Put a record in a transaction."""
        self._need(transaction)
        self._changes[transaction][key] = (key, point, payload)

    def delete(self, transaction, key):
        """Delete a key in a transaction, whether it is there or not."""
        self._need(transaction)
        self._changes[transaction][key] = None

    def abort(self, transaction):
        """End a transaction without an effect."""
        self._need(transaction)
        del self._snapshots[transaction]
        del self._changes[transaction]

    def get(self, transaction, key):
        """Return the record of a key, or None."""
        records = self.between(transaction, key, key)
        return records[0] if records else None

    def between(self, transaction, low, high):
        """Return the records whose keys are from low to high, in the order of their keys."""
        snapshot = self.snapshot(transaction)
        changes = self._changes[transaction]
        records = self._put_records(transaction, low, high)
        for entry in self._key_tree.entries(low, high):
            key, _, _, point, payload = entry
            if sees(snapshot, entry) and key not in changes:
                records.append((key, point, payload))
        return sorted(records, key=lambda record: record[0])

    def nearest(self, transaction, point, count, low, high):
        """Return the first records of a range by their distance to a point and key."""
        snapshot = self.snapshot(transaction)
        changes = self._changes[transaction]

        def accepts(key, begin):
            if key in changes or not low <= key <= high:
                return False
            return any([sees(snapshot, entry) for entry in self._versions_with(key, begin)])

        records = []
        for record in self._put_records(transaction, low, high):
            records.append((distance(self.metric, point, record[1]),) + record)
        for apart, key, begin, _ in self._metric_tree.nearest(point, count, accepts):
            for version in self._versions_with(key, begin):
                records.append((apart, key) + version[3:])
        return sorted(records, key=lambda row: (row[0], row[1]))[:max(count, 0)]

    def commit(self, transaction):
        """Let the changes of a transaction take effect, and return the last commit number."""
        snapshot = self.snapshot(transaction)
        changes = self._changes[transaction]
        self.abort(transaction)
        for key in changes:
            if any([is_newer(snapshot, entry) for entry in self._key_tree.entries(key, key)]):
                raise Conflict()
        if changes:
            self._pager.set_field(LAST_COMMIT, self.last_commit() + 1)
            for key in sorted(changes):
                self._make_versions(key, changes[key])
            self._pager.commit()
        return self.last_commit()

    def vacuum(self):
        """Remove the versions that no transaction can see any more, and return their number."""
        oldest = min([self.last_commit()] + list(self._snapshots.values()))
        removed = [entry for entry in self.versions() if 0 < entry[2] <= oldest]
        for key, begin, _, point, _ in removed:
            self._key_tree.delete(key, begin)
            self._metric_tree.delete((key, begin, point))
        if removed:
            self._pager.commit()
        return len(removed)

    def checkpoint(self):
        """Make the checkpoint of the pager."""
        self._pager.checkpoint()

    def last_commit(self):
        """Return the last commit number."""
        return self._pager.field(LAST_COMMIT)

    def versions(self):
        """Return all entries of the key tree, in order."""
        return self._key_tree.entries(0, GREATEST_KEY)

    def _make_new(self):
        """Make a store without records on an empty device."""
        self._pager.set_field(FORMAT, FORMAT_NUMBER)
        self._pager.set_field(DIMENSIONS, self.dimensions)
        self._pager.set_field(METRIC, METRICS.index(self.metric))
        # On an empty device these are the pages 1 and 2, in this order.
        self._pager.set_field(KEY_ROOT, self._pager.allocate())
        self._pager.set_field(METRIC_ROOT, self._pager.allocate())
        self._pager.commit()

    def _need(self, transaction):
        """Raise NoTransaction if a transaction is not open."""
        if transaction not in self._snapshots:
            raise NoTransaction()

    def _put_records(self, transaction, low, high):
        """Return the records of a range that a transaction itself has put."""
        records = list(self._changes[transaction].values())
        return [record for record in records if record is not None and low <= record[0] <= high]

    def _versions_with(self, key, begin):
        """Return a list of the only version with this key and begin."""
        return [version for version in self._key_tree.entries(key, key) if version[1] == begin]

    def _make_versions(self, key, record):
        """End the version of a changed key, if any, and begin one if a record was put."""
        number = self.last_commit()
        for _, begin, end, _, _ in self._key_tree.entries(key, key):
            if end == 0:
                self._key_tree.replace(key, begin, number)
        if record is not None:
            _, point, payload = record
            self._key_tree.insert((key, number, 0, point, payload))
            self._metric_tree.insert((key, number, point))
