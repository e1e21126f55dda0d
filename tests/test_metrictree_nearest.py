"""Tests of nearvault.metrictree: the nearest items, against a plain scan (point 18)."""

import itertools
import random
import unittest

from nearvault.device import Device
from nearvault.metrictree import MetricTree
from nearvault.pager import Pager
from support import apart

METRICS = ("sum", "greatest", "unlike")


def any_item(key, begin):
    return True


def no_item(key, begin):
    return False


class NearestTest(unittest.TestCase):
    def begin(self, dimensions, metric, items):
        self.device = Device()
        self.pager = Pager(self.device)
        self.metric = metric
        self.tree = MetricTree(self.pager, self.pager.allocate(), dimensions, metric)
        self.items = items
        for item in items:
            self.tree.insert(item)
        self.pager.commit()

    def scan(self, point, count, accepts):
        rows = [(apart(self.metric, place, point), key, begin, place) for key, begin, place in self.items]
        return sorted(row for row in rows if accepts(row[1], row[2]))[:count]

    def check(self, point, accepts):
        pairs = {item[:2] for item in self.items}
        asked = []

        def watched(key, begin):
            asked.append((key, begin))
            return accepts(key, begin)

        for count in (1, 2, 5, len(self.items) - 1, len(self.items), len(self.items) + 1, 10**6):
            found = self.tree.nearest(point, count, watched)
            self.assertEqual(found, self.scan(point, count, accepts))
        self.assertLessEqual(set(asked), pairs)

    def check_all(self, points):
        for point in points:
            for accepts in (any_item, no_item, lambda key, begin: key % 3 == 1, lambda key, begin: begin > 4):
                self.check(point, accepts)

    def test_each_number_of_dimensions_and_each_metric(self):
        for dimensions, metric in itertools.product((1, 2, 8), METRICS):
            chance = random.Random(dimensions)
            points = [tuple(chance.randrange(-40, 40) for _ in range(dimensions)) for _ in range(160)]
            self.begin(dimensions, metric, [(k % 50, k // 7 + 1, point) for k, point in enumerate(points)])
            far = [(32767,) * dimensions, (-32768,) * dimensions]
            self.check_all(points[:5] + far + [(0,) * dimensions])

    def test_equal_distances_in_the_order_of_keys_and_begins(self):
        # Four places around the middle, each with several keys and begins.
        places = [(0, 5), (5, 0), (0, -5), (-5, 0)]
        items = [(key, begin, places[(key + begin) % 4]) for key in range(9, 0, -1) for begin in range(5, 0, -1)]
        self.begin(2, "sum", items)
        found = self.tree.nearest((0, 0), 45, any_item)
        self.assertEqual([row[1:3] for row in found], sorted(item[:2] for item in items))
        self.assertEqual({row[0] for row in found}, {5})
        self.check_all([(0, 0), (1, 1), (0, 5)])

    def test_equal_points_with_several_keys_and_begins(self):
        for metric in METRICS:
            self.begin(2, metric, [(k * 7 % 40, k, (3, 4)) for k in range(40)])
            self.check_all([(3, 4), (0, 0)])

    def test_keys_and_begins_are_compared_as_numbers(self):
        pairs = [(256, 1), (3, 70000), (3, 5), (2**32 - 1, 0), (0, 2**32 - 1)]
        self.begin(1, "sum", [pair + ((0,),) for pair in pairs])
        found = self.tree.nearest((2,), 5, any_item)
        self.assertEqual([row[1:3] for row in found], sorted(pairs))

    def test_a_near_page_does_not_hide_an_item_that_is_as_near(self):
        # Items at the same distance on both sides, which stand in different leaves.
        items = [(100 - k, 1, (k,)) for k in range(-30, 31)]
        self.begin(1, "sum", items)
        for k in range(1, 31):
            self.assertEqual(self.tree.nearest((0,), 2 * k, any_item), self.scan((0,), 2 * k, any_item))
            self.assertEqual(self.tree.nearest((0,), 2 * k + 1, any_item), self.scan((0,), 2 * k + 1, any_item))

    def test_what_is_handed_out_and_the_pages(self):
        self.begin(1, "sum", [(k, 1, (k,)) for k in range(30)])
        head = self.pager.read(0)
        steps = self.device.steps()
        found = self.tree.nearest((3,), 4, any_item)
        self.assertEqual(found, [(0, 3, 1, (3,)), (1, 2, 1, (2,)), (1, 4, 1, (4,)), (2, 1, 1, (1,))])
        found.clear()
        self.tree.all_items().clear()
        self.tree.pages().clear()
        self.assertEqual(len(self.tree.nearest((3,), 4, any_item)), 4)
        self.assertEqual(len(self.tree.all_items()), 30)
        self.assertGreater(len(self.tree.pages()), 1)
        # A page that was changed would be dirty now.
        self.pager.commit()
        self.assertEqual(self.device.steps(), steps)
        self.assertEqual(self.pager.read(0), head)

    def test_few_items_are_asked_for_where_few_are_near(self):
        self.begin(2, "greatest", [(k, 1, (k % 30 * 1000, k // 30 * 1000)) for k in range(900)])
        asked = []
        found = self.tree.nearest((4100, 7200), 1, lambda key, begin: asked.append(key) or True)
        self.assertEqual(found, [(200, 214, 1, (4000, 7000))])
        self.assertEqual(asked, [214])


if __name__ == "__main__":
    unittest.main()
