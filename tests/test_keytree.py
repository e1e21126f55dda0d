"""Tests of nearvault.keytree: the entries of a tree, whatever its pages are."""

import random
import unittest

from nearvault.device import Device
from nearvault.keytree import KeyTree
from nearvault.pager import Pager
from support import ZEROS, inner_of, leaf_of

GREATEST = 2**32 - 1
LOWEST_COORDINATE = -32768
HIGHEST_COORDINATE = 32767
DIMENSIONS = (1, 2, 8)
PAYLOADS = ("empty", "full", "mixed")
ORDERS = ("ascending", "descending", "mixed")


def point_for(dimensions, k):
    return tuple((k * 7919 + at * 104729) % 65536 - 32768 for at in range(dimensions))


def payload_for(kind, k):
    many = {"empty": 0, "full": 40, "mixed": (k * 17) % 41}[kind]
    return tuple((k + at) % 256 for at in range(many))


def entries_for(dimensions, payloads, many):
    """Return entries in order; every third key has two of them, every sixth three."""
    entries = []
    for k in range(many):
        begins = (k % 5, k % 5 + 3, GREATEST)[: 3 if k % 6 == 0 else 2 if k % 3 == 0 else 1]
        for begin in begins:
            entries.append((3 * k, begin, 0 if begin == GREATEST else begin + 2,
                            point_for(dimensions, k + begin), payload_for(payloads, k + begin)))
    return entries


def in_order(entries, order, seed=1):
    if order == "ascending":
        return list(entries)
    if order == "descending":
        return list(reversed(entries))
    mixed = list(entries)
    random.Random(seed).shuffle(mixed)
    return mixed


def keys_for(payloads):
    """Return how many keys make a tree of three levels with these payloads."""
    return {"empty": 260, "full": 110, "mixed": 160}[payloads]


class KeyTreeTest(unittest.TestCase):
    def setUp(self):
        self.begin(2)

    def begin(self, dimensions):
        self.device = Device()
        self.pager = Pager(self.device)
        self.root = self.pager.allocate()
        self.dimensions = dimensions
        self.tree = KeyTree(self.pager, self.root, dimensions)

    def fill(self, entries):
        for entry in entries:
            self.assertIsNone(self.tree.insert(entry))

    def check_ranges(self, entries):
        """Check ranges with few and with many keys, and empty ones."""
        ordered = sorted(entries)
        keys = sorted({entry[0] for entry in ordered})
        edges = [0, 1, GREATEST] + keys[:: max(1, len(keys) // 12)] + keys[-1:]
        edges += [key + 1 for key in keys[:: max(1, len(keys) // 5)]]
        for low in edges:
            for high in edges + [low]:
                expected = [entry for entry in ordered if low <= entry[0] <= high]
                self.assertEqual(self.tree.entries(low, high), expected, (low, high))

    def check_all(self, entries):
        self.assertEqual(self.tree.entries(0, GREATEST), sorted(entries))

    def depth(self):
        """Return how many pages stand one below another from the root on."""
        page, depth = self.pager.read(self.root), 1
        while page[0] == 2:
            page = self.pager.read(int.from_bytes(page[10:14], "big"))
            depth += 1
        return depth


class EmptyTreeTest(KeyTreeTest):
    def test_a_page_with_only_zeros(self):
        self.assertEqual(self.tree.entries(0, GREATEST), [])
        self.assertEqual(self.tree.pages(), [1])
        self.assertEqual(self.pager.read(1), ZEROS)

    def test_a_leaf_without_entries(self):
        self.pager.write(1, leaf_of())
        self.assertEqual(self.tree.entries(0, GREATEST), [])
        self.assertEqual(self.tree.pages(), [1])
        self.fill([(3, 1, 0, (5, 6), ())])
        self.check_all([(3, 1, 0, (5, 6), ())])

    def test_a_page_that_was_never_allocated(self):
        tree = KeyTree(self.pager, 4000000000, 2)
        self.assertEqual(tree.entries(0, GREATEST), [])
        self.assertEqual(tree.pages(), [4000000000])
        tree.insert((3, 1, 0, (5, 6), ()))
        self.assertEqual(tree.entries(0, GREATEST), [(3, 1, 0, (5, 6), ())])

    def test_making_a_tree_changes_nothing(self):
        self.pager.commit()
        steps = self.device.steps()
        KeyTree(self.pager, 1, 2).entries(0, 5)
        KeyTree(self.pager, 1, 2).pages()
        self.pager.commit()
        self.assertEqual(self.device.steps(), steps)


class OneLeafTest(KeyTreeTest):
    def test_the_edges_of_every_part(self):
        entries = [
            (0, 0, 0, (LOWEST_COORDINATE, HIGHEST_COORDINATE), ()),
            (0, GREATEST, GREATEST, (0, -1), (0,)),
            (GREATEST, 0, 1, (HIGHEST_COORDINATE, LOWEST_COORDINATE), (255, 0, 255)),
            (GREATEST, GREATEST, 0, (1, 1), tuple(range(216, 256))),
        ]
        for order in ORDERS:
            self.begin(2)
            self.fill(in_order(entries, order))
            self.check_all(entries)
            self.assertEqual(self.tree.entries(0, 0), entries[:2])
            self.assertEqual(self.tree.entries(GREATEST, GREATEST), entries[2:])
            self.assertEqual(self.tree.entries(1, GREATEST - 1), [])

    def test_kinds_of_values(self):
        self.fill([(3, 1, 2, (5, 6), (7, 8))])
        found = self.tree.entries(0, GREATEST)
        self.assertIs(type(found), list)
        self.assertEqual([type(part) for part in found[0]], [int, int, int, tuple, tuple])
        self.assertIs(type(found[0]), tuple)
        self.assertIs(type(self.tree.pages()), list)

    def test_lists_that_are_handed_out(self):
        self.fill([(3, 1, 2, (5, 6), (7, 8))])
        self.tree.entries(0, GREATEST).clear()
        self.tree.pages().append(9)
        self.check_all([(3, 1, 2, (5, 6), (7, 8))])
        self.assertEqual(self.tree.pages(), [1])

    def test_order_by_key_and_then_by_begin(self):
        entries = [(key, begin, 9, (key, begin), ()) for key in (1, 2, 256) for begin in (0, 1, 255, 256)]
        self.fill(in_order(entries, "mixed"))
        self.assertEqual(self.tree.pages(), [1])
        self.check_all(entries)

    def test_ranges(self):
        entries = [(key, begin, 0, (key, 0), ()) for key in (2, 4, 6) for begin in (1, 3)]
        self.fill(entries)
        self.assertEqual(self.tree.entries(2, 2), entries[:2])
        self.assertEqual(self.tree.entries(3, 5), entries[2:4])
        self.assertEqual(self.tree.entries(4, 6), entries[2:])
        self.assertEqual(self.tree.entries(3, 3), [])
        self.assertEqual(self.tree.entries(7, GREATEST), [])
        self.assertEqual(self.tree.entries(0, 1), [])
        self.assertEqual(self.tree.entries(6, 2), [])
        self.assertEqual(self.tree.entries(5, 4), [])

    def test_replacing(self):
        self.fill([(2, 1, 0, (1, 2), (9,)), (2, 4, 0, (3, 4), ()), (5, 1, 0, (5, 6), (8, 8))])
        self.assertIsNone(self.tree.replace(2, 1, 4))
        self.check_all([(2, 1, 4, (1, 2), (9,)), (2, 4, 0, (3, 4), ()), (5, 1, 0, (5, 6), (8, 8))])
        self.tree.replace(5, 1, GREATEST)
        self.tree.replace(2, 4, 7)
        self.tree.replace(2, 1, 0)
        self.check_all([(2, 1, 0, (1, 2), (9,)), (2, 4, 7, (3, 4), ()), (5, 1, GREATEST, (5, 6), (8, 8))])

    def test_deleting(self):
        entries = [(2, 1, 4, (1, 2), (9,)), (2, 4, 0, (3, 4), ()), (5, 1, 0, (5, 6), (8, 8))]
        self.fill(entries)
        self.assertIsNone(self.tree.delete(2, 4))
        self.check_all([entries[0], entries[2]])
        self.tree.delete(2, 1)
        self.check_all([entries[2]])
        self.tree.delete(5, 1)
        self.check_all([])
        self.fill(entries)
        self.check_all(entries)

    def test_somewhat_beyond_the_limits(self):
        for many in (41, 45, 80, 100):
            with self.subTest(many=many):
                self.begin(9)
                entries = [(k, 0, 0, (k,) * 9, (k,) * (many - k % 2)) for k in range(30)]
                self.fill(in_order(entries, "mixed"))
                self.check_all(entries)
                self.assertEqual(self.tree.entries(-5, 2**32 + 5), entries)
                for entry in entries:
                    self.tree.delete(entry[0], entry[1])
                self.check_all([])
                self.assertEqual(self.tree.pages(), [1])


class ManyEntriesTest(KeyTreeTest):
    def for_each_kind(self):
        for dimensions in DIMENSIONS:
            for payloads in PAYLOADS:
                entries = entries_for(dimensions, payloads, keys_for(payloads))
                for order in ORDERS:
                    with self.subTest(dimensions=dimensions, payloads=payloads, order=order):
                        self.begin(dimensions)
                        yield entries, order

    def test_inserting(self):
        for entries, order in self.for_each_kind():
            given = in_order(entries, order)
            for many, entry in enumerate(given, start=1):
                self.tree.insert(entry)
                if many % 37 == 0:
                    self.check_all(given[:many])
            self.check_all(entries)
            self.check_ranges(entries)
            # The root was split at least twice.
            self.assertGreaterEqual(self.depth(), 3)
            pages = self.tree.pages()
            self.assertEqual(sorted(pages), list(range(1, self.pager.field(6))))
            self.assertEqual(pages[0], 1)

    def test_replacing(self):
        for entries, order in self.for_each_kind():
            self.fill(in_order(entries, order))
            pages = self.tree.pages()
            expected = {(entry[0], entry[1]): entry for entry in entries}
            for k, entry in enumerate(in_order(entries, "mixed", 2)[::3]):
                key, begin, _, point, payload = entry
                self.tree.replace(key, begin, k * 65537)
                expected[key, begin] = (key, begin, k * 65537, point, payload)
            self.check_all(expected.values())
            self.assertEqual(self.tree.pages(), pages)

    def test_deleting_until_the_tree_is_empty(self):
        for entries, order in self.for_each_kind():
            self.fill(in_order(entries, "mixed", 3))
            used = self.pager.field(6)
            left = {(entry[0], entry[1]): entry for entry in entries}
            for many, entry in enumerate(in_order(entries, order, 4)):
                self.tree.delete(entry[0], entry[1])
                del left[entry[0], entry[1]]
                if many % 29 == 0 or len(left) < 6:
                    self.check_all(left.values())
                    self.check_pages_in_use(used)
            self.assertEqual(self.tree.pages(), [1])
            self.assertEqual(self.pager.read(1), leaf_of())
            self.check_pages_in_use(used)

    def check_pages_in_use(self, used):
        """Check that each page is either one of the tree or a free one."""
        free, number = [], self.pager.field(7)
        while number != 0:
            free.append(number)
            number = int.from_bytes(self.pager.read(number)[:4], "big")
        self.assertEqual(sorted(self.tree.pages() + free), list(range(1, used)))
        self.assertEqual(self.pager.field(6), used)

    def test_inserting_again_behind_deleting(self):
        for entries, order in self.for_each_kind():
            self.fill(entries)
            for entry in in_order(entries, order, 5)[: 2 * len(entries) // 3]:
                self.tree.delete(entry[0], entry[1])
            left = self.tree.entries(0, GREATEST)
            again = [entry for entry in entries if entry not in left]
            self.fill(in_order(again, "mixed", 6))
            self.check_all(entries)
            self.check_ranges(entries)
            self.check_pages_in_use(self.pager.field(6))

    def test_many_entries_with_one_key(self):
        self.begin(8)
        entries = [(7, begin, begin + 1, point_for(8, begin), payload_for("full", begin)) for begin in range(150)]
        around = [(6, 9, 0, point_for(8, 1), ()), (8, 0, 0, point_for(8, 2), ())]
        for order in ORDERS:
            self.begin(8)
            self.fill(in_order(entries + around, order))
            self.assertEqual(self.tree.entries(7, 7), entries)
            self.assertEqual(self.tree.entries(6, 7), around[:1] + entries)
            self.assertEqual(self.tree.entries(7, 8), entries + around[1:])
            self.assertEqual(self.tree.entries(8, 8), around[1:])
            self.assertEqual(self.tree.entries(0, 5), [])
            for entry in entries[::2]:
                self.tree.delete(7, entry[1])
            self.assertEqual(self.tree.entries(7, 7), entries[1::2])


class OtherTreesTest(KeyTreeTest):
    def test_a_second_tree_over_the_same_root_sees_the_same(self):
        other = KeyTree(self.pager, self.root, 2)
        entries = entries_for(2, "mixed", 150)
        for k, entry in enumerate(in_order(entries, "mixed")):
            (self.tree, other)[k % 2].insert(entry)
        self.check_all(entries)
        self.assertEqual(other.entries(0, GREATEST), entries)
        self.assertEqual(other.pages(), self.tree.pages())
        for k, entry in enumerate(in_order(entries, "mixed", 2)[:120]):
            (self.tree, other)[k % 2].delete(entry[0], entry[1])
        self.assertEqual(other.entries(0, GREATEST), self.tree.entries(0, GREATEST))
        self.assertEqual(other.pages(), self.tree.pages())

    def test_behind_a_commit_and_an_opening(self):
        entries = entries_for(2, "full", 100)
        self.fill(in_order(entries, "mixed"))
        self.pager.commit()
        tree = KeyTree(Pager(self.device), self.root, 2)
        self.assertEqual(tree.entries(0, GREATEST), entries)
        self.assertEqual(tree.pages(), self.tree.pages())

    def test_behind_a_rollback(self):
        entries = entries_for(2, "full", 100)
        half = entries[::2]
        self.fill(half)
        self.pager.commit()
        pages = self.tree.pages()
        self.fill(entries[1::2])
        self.tree.replace(0, 0, 77)
        self.check_all([(*entry[:2], 77, *entry[3:]) if entry[:2] == (0, 0) else entry for entry in entries])
        self.pager.rollback()
        self.check_all(half)
        self.assertEqual(self.tree.pages(), pages)
        for entry in half:
            self.tree.delete(entry[0], entry[1])
        self.check_all([])
        self.pager.rollback()
        self.check_all(half)

    def test_two_trees_of_one_pager(self):
        second_root = self.pager.allocate()
        other = KeyTree(self.pager, second_root, 8)
        entries = entries_for(2, "mixed", 120)
        other_entries = entries_for(8, "full", 80)
        for k in range(max(len(entries), len(other_entries))):
            if k < len(entries):
                self.tree.insert(entries[-1 - k])
            if k < len(other_entries):
                other.insert(other_entries[k])
        self.check_all(entries)
        self.assertEqual(other.entries(0, GREATEST), other_entries)
        self.assertEqual(sorted(self.tree.pages() + other.pages()), list(range(1, self.pager.field(6))))
        for entry in entries:
            self.tree.delete(entry[0], entry[1])
        self.check_all([])
        self.assertEqual(other.entries(0, GREATEST), other_entries)

    def test_roots_with_any_number(self):
        for root in (1, 9, 1000, GREATEST):
            with self.subTest(root=root):
                self.setUp()
                self.pager.set_field(6, 10)
                tree = KeyTree(self.pager, root, 1)
                entries = entries_for(1, "full", 60)
                for entry in entries:
                    tree.insert(entry)
                self.assertEqual(tree.entries(0, GREATEST), entries)
                self.assertEqual(tree.pages()[0], root)
                self.assertEqual(sorted(tree.pages()[1:]), list(range(10, self.pager.field(6))))
                for entry in entries:
                    tree.delete(entry[0], entry[1])
                self.assertEqual(tree.pages(), [root])


class PagesTest(KeyTreeTest):
    def test_depth_first_and_each_child_before_its_own_children(self):
        entry = (5, 0, 0, (1, 1), ())
        self.pager.write(1, inner_of((0, 0, 9), (10, 0, 4), (20, 0, 7)))
        self.pager.write(9, inner_of((0, 0, 3), (5, 0, 30)))
        self.pager.write(4, inner_of((10, 0, 2)))
        self.pager.write(7, inner_of((20, 0, 8), (25, 0, 6), (27, 0, 5)))
        for number in (3, 30, 2, 8, 6, 5):
            self.pager.write(number, leaf_of(entry))
        self.assertEqual(self.tree.pages(), [1, 9, 3, 30, 4, 2, 7, 8, 6, 5])
        self.assertEqual(KeyTree(self.pager, 7, 2).pages(), [7, 8, 6, 5])
        self.assertEqual(KeyTree(self.pager, 30, 2).pages(), [30])


if __name__ == "__main__":
    unittest.main()
