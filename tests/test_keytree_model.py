"""Tests of nearvault.keytree against a model of points 12 to 14.

The model keeps the tree as nodes that hold each other, with the page that each
one stands on, and tells from them all pages byte by byte.
"""

import random
import unittest

from nearvault.device import Device
from nearvault.keytree import KeyTree
from nearvault.log import read_groups
from nearvault.pager import Pager
from support import ZEROS, entry_bytes, head_of, inner_of, leaf_of, page_of

GREATEST = 2**32 - 1


class Node:
    """A leaf with entries, or an inner page with pairs and the nodes below them."""

    def __init__(self, page, entries=None, children=None):
        self.page = page
        self.entries = entries
        self.children = children

    def first_pair(self):
        if self.entries is not None:
            return self.entries[0][:2]
        return self.children[0][0]

    def size(self):
        if self.entries is not None:
            return 2 + sum(len(entry_bytes(entry)) for entry in self.entries)
        return 2 + 12 * len(self.children)

    def is_too_big(self):
        return self.size() > 256 or (self.children is not None and len(self.children) > 20)

    def cut(self):
        """Take the second part away, and return its entries and its children."""
        if self.entries is not None:
            sizes = [len(entry_bytes(entry)) for entry in self.entries]
        else:
            sizes = [12] * len(self.children)
        fitting = [many for many in range(len(sizes)) if 2 * sum(sizes[:many]) <= sum(sizes)]
        many = max(fitting)
        if self.entries is not None:
            second = (self.entries[many:], None)
            self.entries = self.entries[:many]
        else:
            second = (None, self.children[many:])
            self.children = self.children[:many]
        return second

    def place_for(self, pair):
        """Return the number of the child below which a pair belongs."""
        fitting = [k for k, (least, _) in enumerate(self.children) if k > 0 and least <= pair]
        return max(fitting, default=0)

    def content(self):
        if self.entries is not None:
            return leaf_of(*self.entries)
        return inner_of(*[(key, begin, node.page) for (key, begin), node in self.children])

    def pages(self):
        found = [self.page]
        for _, node in self.children or []:
            found += node.pages()
        return found

    def contents(self):
        found = {self.page: self.content()}
        for _, node in self.children or []:
            found.update(node.contents())
        return found


class Model:
    def __init__(self):
        self.root = Node(1, entries=[])
        self.end = 2
        self.free = []

    def new_page(self):
        if self.free:
            return self.free.pop()
        self.end += 1
        return self.end - 1

    def insert(self, entry):
        self.insert_below(self.root, entry)
        if self.root.is_too_big():
            second = Node(self.new_page(), *self.root.cut())
            first = Node(self.new_page(), self.root.entries, self.root.children)
            self.root.entries = None
            self.root.children = [(first.first_pair(), first), (second.first_pair(), second)]

    def insert_below(self, node, entry):
        if node.entries is not None:
            node.entries = sorted(node.entries + [entry])
            return
        k = node.place_for(entry[:2])
        child = node.children[k][1]
        self.insert_below(child, entry)
        if child.is_too_big():
            second = Node(self.new_page(), *child.cut())
            node.children.insert(k + 1, (second.first_pair(), second))

    def replace(self, key, begin, end):
        node = self.root
        while node.entries is None:
            node = node.children[node.place_for((key, begin))][1]
        node.entries = [entry[:2] + (end,) + entry[3:] if entry[:2] == (key, begin) else entry for entry in node.entries]

    def delete(self, key, begin):
        self.delete_below(self.root, (key, begin))
        while self.root.children is not None and len(self.root.children) == 1:
            child = self.root.children[0][1]
            self.root.entries, self.root.children = child.entries, child.children
            self.free.append(child.page)
        if self.root.children == []:
            self.root.entries, self.root.children = [], None

    def delete_below(self, node, pair):
        if node.entries is not None:
            node.entries = [entry for entry in node.entries if entry[:2] != pair]
            return
        k = node.place_for(pair)
        child = node.children[k][1]
        self.delete_below(child, pair)
        if not child.entries and not child.children:
            self.free.append(child.page)
            del node.children[k]

    def contents(self):
        """Return all pages: the head, those of the tree, and the free ones."""
        found = self.root.contents()
        found[0] = head_of(self.end, self.free[-1] if self.free else 0)
        for before, page in zip([0] + self.free, self.free):
            found[page] = page_of(before)
        return found


class ModelTest(unittest.TestCase):
    def begin(self, dimensions, payload_lengths, seed):
        self.chance = random.Random(seed)
        self.dimensions = dimensions
        self.payload_lengths = payload_lengths
        self.device = Device()
        self.pager = Pager(self.device)
        self.tree = KeyTree(self.pager, self.pager.allocate(), dimensions)
        self.model = Model()
        self.there = {}

    def new_entry(self, key, begin):
        point = tuple(self.chance.choice((-32768, -1, 0, 1, 32767, 500)) for _ in range(self.dimensions))
        payload = tuple(self.chance.randrange(256) for _ in range(self.chance.choice(self.payload_lengths)))
        return (key, begin, self.chance.choice((0, begin + 1, GREATEST)), point, payload)

    def insert(self, key, begin):
        entry = self.new_entry(key, begin)
        self.tree.insert(entry)
        self.model.insert(entry)
        self.there[key, begin] = entry

    def replace(self, key, begin, end):
        self.tree.replace(key, begin, end)
        self.model.replace(key, begin, end)
        self.there[key, begin] = self.there[key, begin][:2] + (end,) + self.there[key, begin][3:]

    def delete(self, key, begin):
        self.tree.delete(key, begin)
        self.model.delete(key, begin)
        del self.there[key, begin]

    def check(self):
        expected = self.model.contents()
        self.assertEqual(sorted(expected), list(range(self.model.end)))
        for number, content in expected.items():
            self.assertEqual(self.pager.read(number), content, number)
        self.assertEqual(self.tree.pages(), self.model.root.pages())

    def check_entries(self):
        self.assertEqual(self.tree.entries(0, GREATEST), sorted(self.there.values()))
        low, high = sorted(self.chance.choice([*self.there, (0, 0), (GREATEST, 0)])[0] for _ in range(2))
        expected = [entry for entry in sorted(self.there.values()) if low <= entry[0] <= high]
        self.assertEqual(self.tree.entries(low, high), expected)

    def check_written_pages(self):
        """Check that the last call made just those pages dirty that it changed."""
        expected = self.model.contents()
        changed = [number for number in expected if expected[number] != self.before.get(number, ZEROS)]
        self.before = expected
        self.pager.commit()
        written = [number for number, _ in read_groups(self.device.log())[-1]]
        self.assertEqual(written, sorted(changed))
        self.pager.checkpoint()

    def any_pair(self, greatest_key):
        while True:
            pair = (self.chance.randrange(greatest_key), self.chance.randrange(4))
            if pair not in self.there:
                return pair

    def turn(self, inserts, greatest_key):
        if not self.there or self.chance.random() < inserts:
            self.insert(*self.any_pair(greatest_key))
        else:
            self.delete(*self.chance.choice(list(self.there)))

    def run_turns(self, turns, greatest_key, check_each):
        """Let the tree grow, stay and shrink in turn."""
        for turn in range(turns):
            self.turn((0.9, 0.5, 0.1, 0.6)[4 * turn // turns], greatest_key)
            if self.there and self.chance.randrange(8) == 0:
                self.replace(*self.chance.choice(list(self.there)), self.chance.randrange(GREATEST))
            if turn % check_each == 0:
                self.check()
                self.check_entries()

    def empty(self):
        for pair in self.chance.sample(list(self.there), len(self.there)):
            self.delete(*pair)
            if len(self.there) % 10 == 0:
                self.check()
        self.check()
        self.assertEqual(self.pager.read(1), leaf_of())

    def test_grown_shrunk_and_emptied(self):
        for dimensions in (1, 2, 8):
            for payload_lengths in ((0,), (40,), range(41), (0, 0, 0, 40), (13, 14, 15, 25)):
                with self.subTest(dimensions=dimensions, payload_lengths=payload_lengths):
                    self.begin(dimensions, payload_lengths, dimensions)
                    self.run_turns(800, 2**32, 20)
                    self.empty()

    def test_few_keys(self):
        for seed in range(12):
            with self.subTest(seed=seed):
                self.begin(8, (40,), seed)
                self.run_turns(250, 25, 3)
                self.empty()

    def test_inserted_and_deleted_in_order(self):
        # Ascending insertions split a root of inner pages more than once.
        for inserted in (1, -1):
            for deleted in (1, -1):
                with self.subTest(inserted=inserted, deleted=deleted):
                    self.begin(8, (40,), 1)
                    for key in range(500)[::inserted]:
                        self.insert(key, 1)
                        if key % 25 == 0:
                            self.check()
                    self.check_entries()
                    for key in range(500)[::deleted]:
                        self.delete(key, 1)
                        if key % 25 == 0:
                            self.check()
                    self.check()

    def test_the_pages_that_are_written(self):
        for seed, dimensions in ((1, 1), (2, 8), (3, 8)):
            self.begin(dimensions, (0, 40), seed)
            self.pager.commit()
            self.before = self.model.contents()
            self.before[1] = ZEROS
            for turn in range(300):
                self.turn((0.95, 0.3)[turn // 180], 2**32)
                self.check_written_pages()


if __name__ == "__main__":
    unittest.main()
