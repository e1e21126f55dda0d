"""Tests of nearvault.metrictree against a model of points 15 to 18.

The model keeps the tree as nodes that hold each other, with the page that each
one stands on, and tells from them all pages byte by byte.
"""

import itertools
import random
import unittest

from nearvault.device import Device
from nearvault.log import read_groups
from nearvault.metrictree import MetricTree
from nearvault.pager import Pager
from support import ZEROS, apart, head_of, metric_inner_of, metric_leaf_of, page_of

METRICS = ("sum", "greatest", "unlike")


class Node:
    """A leaf with items, or an inner page with lists `[pivot, radius, node]`."""

    def __init__(self, page, items=None, children=None):
        self.page = page
        self.items = items
        self.children = children

    def many(self):
        return len(self.items if self.children is None else self.children)

    def points(self):
        if self.children is None:
            return [point for _, _, point in self.items]
        return [pivot for pivot, _, _ in self.children]

    def part(self, places, page):
        """Return a node with some of the items or children."""
        if self.children is None:
            return Node(page, [self.items[k] for k in places])
        return Node(page, None, [self.children[k] for k in places])

    def reach(self, metric, pivot):
        """Return the least radius around a pivot."""
        if self.children is None:
            return max(apart(metric, pivot, point) for _, _, point in self.items)
        return max(apart(metric, pivot, other) + radius for other, radius, _ in self.children)

    def content(self):
        if self.children is None:
            return metric_leaf_of(*self.items)
        return metric_inner_of(*[(pivot, radius, node.page) for pivot, radius, node in self.children])

    def nodes(self):
        found = [self]
        for _, _, node in self.children or []:
            found += node.nodes()
        return found


class Model:
    def __init__(self, metric):
        self.metric = metric
        self.root = Node(1, [])
        self.end = 2
        self.free = []

    def new_page(self):
        if self.free:
            return self.free.pop()
        self.end += 1
        return self.end - 1

    def pivots(self, points):
        """Return the places of the two pivots of the halves."""
        best = None
        for first, second in itertools.combinations(range(len(points)), 2):
            here = apart(self.metric, points[first], points[second])
            if best is None or here > best[0]:
                best = (here, first, second)
        return best[1:]

    def halves(self, node, first_page, second_page):
        """Return the two children that take the place of a node."""
        points = node.points()
        first, second = self.pivots(points)
        places = ([], [])
        for k, point in enumerate(points):
            to_first = apart(self.metric, point, points[first])
            to_second = apart(self.metric, point, points[second])
            places[1 if k == second or to_second < to_first else 0].append(k)
        two = []
        for pivot, own, page in ((first, places[0], first_page), (second, places[1], second_page)):
            part = node.part(own, page)
            two.append([points[pivot], part.reach(self.metric, points[pivot]), part])
        return two

    def insert(self, item):
        self.insert_below(self.root, item)
        if self.root.many() > 9:
            second_page = self.new_page()
            first_page = self.new_page()
            self.root = Node(1, None, self.halves(self.root, first_page, second_page))

    def insert_below(self, node, item):
        if node.children is None:
            node.items.append(item)
            return
        distances = [apart(self.metric, pivot, item[2]) for pivot, _, _ in node.children]
        k = distances.index(min(distances))
        child = node.children[k]
        child[1] = max(child[1], distances[k])
        self.insert_below(child[2], item)
        if child[2].many() > 9:
            node.children[k:k + 1] = self.halves(child[2], child[2].page, self.new_page())

    def delete(self, item):
        self.delete_below(self.root, item)
        while self.root.children is not None and len(self.root.children) == 1:
            only = self.root.children[0][2]
            self.free.append(only.page)
            self.root = Node(1, only.items, only.children)
        if self.root.children == []:
            self.root = Node(1, [])

    def delete_below(self, node, item):
        """Delete an item below a node, and return whether it was there."""
        if node.children is None:
            there = item in node.items
            node.items = [other for other in node.items if other != item]
            return there
        for k, (pivot, radius, child) in enumerate(node.children):
            if apart(self.metric, pivot, item[2]) <= radius and self.delete_below(child, item):
                if child.many() == 0:
                    self.free.append(child.page)
                    del node.children[k]
                return True
        return False

    def contents(self):
        """Return all pages: the head, those of the tree, and the free ones."""
        found = {node.page: node.content() for node in self.root.nodes()}
        found[0] = head_of(self.end, self.free[-1] if self.free else 0)
        for before, page in zip([0] + self.free, self.free):
            found[page] = page_of(before)
        return found


class ModelTest(unittest.TestCase):
    def begin(self, dimensions, metric, steps, seed):
        """Begin an empty tree; coordinates are taken from `steps`."""
        self.chance = random.Random(seed)
        self.dimensions = dimensions
        self.metric = metric
        self.steps = list(steps)
        self.pager = Pager(Device())
        self.tree = MetricTree(self.pager, self.pager.allocate(), dimensions, metric)
        self.model = Model(metric)
        self.there = []

    def new_point(self):
        return tuple(self.chance.choice(self.steps) for _ in range(self.dimensions))

    def insert(self):
        # No two items agree in both key and begin, as in a store.
        item = (self.chance.randrange(40), len(self.there) + self.chance.randrange(2**31), self.new_point())
        self.there.append(item)
        self.tree.insert(item)
        self.model.insert(item)

    def delete(self, item):
        self.there.remove(item)
        self.tree.delete(item)
        self.model.delete(item)

    def check(self):
        expected = self.model.contents()
        self.assertEqual(sorted(expected), list(range(self.model.end)))
        for number, content in expected.items():
            self.assertEqual(self.pager.read(number), content, number)

    def check_items(self):
        self.assertEqual(self.tree.pages(), [node.page for node in self.model.root.nodes()])
        self.assertEqual(self.tree.all_items(), sorted(self.there))
        self.check_nearest(lambda key, begin: True)
        self.check_nearest(lambda key, begin: (key + begin) % 3 == 0)

    def check_nearest(self, accepts):
        pairs = {item[:2] for item in self.there}

        def asked(key, begin):
            self.assertIn((key, begin), pairs)
            return accepts(key, begin)

        point = self.new_point()
        scan = [(apart(self.metric, place, point), key, begin, place) for key, begin, place in self.there]
        scan = sorted(row for row in scan if accepts(row[1], row[2]))
        for count in (1, 2, 7, len(self.there) + 1):
            self.assertEqual(self.tree.nearest(point, count, asked), scan[:count])

    def grow_and_shrink(self, many, check_each):
        turns = [0.9] * many + [0.5] * many + [0.25] * many
        for turn, inserts in enumerate(turns):
            if not self.there or self.chance.random() < inserts:
                self.insert()
            else:
                self.delete(self.chance.choice(self.there))
            if turn % check_each == 0:
                self.check()
                self.check_items()

    def empty(self, order):
        for item in order:
            self.delete(item)
            self.check()
        self.check_items()
        self.assertEqual(self.pager.read(1), metric_leaf_of())
        self.assertEqual(self.tree.pages(), [1])

    def test_each_number_of_dimensions_and_each_metric(self):
        for dimensions, metric in itertools.product((1, 2, 8), METRICS):
            for steps in (range(-9, 10), (-32768, 32767, 0), range(-32768, 32768)):
                with self.subTest(dimensions=dimensions, metric=metric, steps=steps):
                    self.begin(dimensions, metric, steps, dimensions)
                    self.grow_and_shrink(80, 8)
                    self.empty(self.chance.sample(self.there, len(self.there)))

    def test_each_call_of_small_trees(self):
        for seed, metric in itertools.product(range(4), METRICS):
            with self.subTest(seed=seed, metric=metric):
                self.begin(seed % 2 + 1, metric, range(-3, 4), seed)
                self.grow_and_shrink(30, 1)
                self.empty(list(self.there))

    def test_many_items(self):
        for metric, dimensions in (("sum", 2), ("greatest", 1), ("unlike", 8)):
            with self.subTest(metric=metric):
                self.begin(dimensions, metric, range(-300, 300), 1)
                self.grow_and_shrink(400, 60)

    def test_points_in_a_row(self):
        for step, backwards in itertools.product((1, -1), (False, True)):
            self.begin(1, "sum", [0], 1)
            for k in range(150):
                self.steps = [k * step]
                self.insert()
                self.check()
            self.check_items()
            self.empty(self.there[::-1] if backwards else list(self.there))

    def test_equal_points(self):
        for dimensions, metric in itertools.product((1, 8), METRICS):
            self.begin(dimensions, metric, [5], 1)
            for _ in range(70):
                self.insert()
                self.check()
            self.check_items()
            self.empty(self.chance.sample(self.there, 70))

    def test_two_heaps_far_apart(self):
        self.begin(2, "greatest", [0], 1)
        for k in range(120):
            base = (-32768, 32760)[k % 2]
            self.steps = range(base, base + 8)
            self.insert()
            self.check()
        self.check_items()
        self.empty(self.there[::2] + self.there[1::2])

    def test_the_pages_that_are_written(self):
        for metric, dimensions in zip(METRICS, (1, 2, 8)):
            self.begin(dimensions, metric, range(-50, 50), 3)
            device = Device()
            self.pager = Pager(device)
            self.tree = MetricTree(self.pager, self.pager.allocate(), dimensions, metric)
            self.pager.commit()
            before = {**self.model.contents(), 1: ZEROS}
            for turn in range(250):
                if not self.there or self.chance.random() < (0.95, 0.3)[turn // 150]:
                    self.insert()
                else:
                    self.delete(self.chance.choice(self.there))
                expected = self.model.contents()
                changed = [number for number in expected if expected[number] != before.get(number, ZEROS)]
                before = expected
                self.pager.commit()
                written = [number for number, _ in read_groups(device.log())[-1]]
                # A page that is split may keep all that it had.
                if 0 in changed:
                    self.assertLessEqual(set(changed), set(written))
                else:
                    self.assertEqual(written, sorted(changed))
                self.pager.checkpoint()


if __name__ == "__main__":
    unittest.main()
