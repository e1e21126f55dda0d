"""Tests of nearvault.metrictree: its pages, byte by byte, against points 15 to 17."""

import unittest

from nearvault.device import Device
from nearvault.log import read_groups
from nearvault.metrictree import MetricTree
from nearvault.pager import Pager
from support import ZEROS, filled, metric_inner_of, metric_leaf_of, page_of


def at(*places):
    """Return items in 1 dimension at these places, with ascending keys."""
    return [(key, 1, (place,)) for key, place in enumerate(places)]


def keyed(key, place):
    return (key, 1, (place,))


class PagesTest(unittest.TestCase):
    def setUp(self):
        self.begin(1, "sum")

    def begin(self, dimensions, metric, first_new_page=2):
        self.device = Device()
        self.pager = Pager(self.device)
        self.pager.set_field(6, first_new_page)
        self.tree = MetricTree(self.pager, 1, dimensions, metric)

    def write(self, pages):
        """Write pages by hand, and commit them."""
        for number, content in pages.items():
            self.pager.write(number, content)
        self.commit()

    def fill(self, items):
        for item in items:
            self.assertIsNone(self.tree.insert(item))

    def commit(self):
        """Commit, and return the numbers of the pages that were dirty."""
        before = len(read_groups(self.device.log()))
        self.pager.commit()
        return [number for pairs in read_groups(self.device.log())[before:] for number, _ in pairs]

    def check_pages(self, expected):
        for number, content in expected.items():
            self.assertEqual(self.pager.read(number), content, f"page {number}")

    def check_free(self, *expected):
        """Check the free pages, the first one first, byte by byte."""
        number = self.pager.field(7)
        for page, following in zip(expected, expected[1:] + (0,)):
            self.assertEqual(number, page)
            self.assertEqual(self.pager.read(page), page_of(following))
            number = following
        self.assertEqual(number, 0)

    def check_new_pages(self, end):
        self.assertEqual(self.pager.field(6), end)


class LeafTest(PagesTest):
    def test_one_item_written_out(self):
        self.begin(2, "sum")
        self.tree.insert((0x01020304, 5, (-32768, 1)))
        data = [3, 1] + [1, 2, 3, 4] + [0, 0, 0, 5] + [0, 0, 128, 1]
        self.check_pages({1: data + [0] * (256 - len(data))})

    def test_an_item_in_8_dimensions_written_out(self):
        self.begin(8, "unlike")
        self.tree.insert((2**32 - 1, 256, (0, 1, -1, 32767, -32768, 255, -256, 2)))
        data = [3, 1] + [255] * 4 + [0, 0, 1, 0]
        data += [128, 0, 128, 1, 127, 255, 255, 255, 0, 0, 128, 255, 127, 0, 128, 2]
        self.check_pages({1: data + [0] * (256 - len(data))})

    def test_a_new_item_stands_behind_the_others(self):
        items = [(9, 1, (5,)), (2, 7, (6,)), (2, 1, (-4,)), (9, 0, (5,))]
        for k in range(4):
            self.tree.insert(items[k])
            self.check_pages({1: metric_leaf_of(*items[:k + 1])})
        self.assertEqual(self.tree.all_items(), [(2, 1, (-4,)), (2, 7, (6,)), (9, 0, (5,)), (9, 1, (5,))])

    def test_nine_items_stay_in_one_leaf(self):
        for dimensions, metric in ((1, "sum"), (2, "greatest"), (8, "unlike")):
            self.begin(dimensions, metric)
            items = [(k, 1, (k * 1000,) * dimensions) for k in range(9)]
            self.fill(items)
            self.check_pages({1: metric_leaf_of(*items)})
            self.check_new_pages(2)
            self.assertEqual(self.tree.pages(), [1])

    def test_a_page_with_only_zeros_is_an_empty_tree(self):
        self.assertEqual(self.pager.read(1), ZEROS)
        self.assertEqual(self.tree.pages(), [1])
        self.assertEqual(self.tree.all_items(), [])
        self.assertEqual(self.tree.nearest((3,), 2, lambda key, begin: True), [])
        self.check_pages({1: ZEROS})

    def test_reading_makes_no_page_dirty(self):
        self.fill(at(*range(0, 200, 10)))
        self.commit()
        self.tree.pages()
        self.tree.all_items()
        self.tree.nearest((30,), 5, lambda key, begin: True)
        self.assertEqual(self.commit(), [])


class SplitLeafTest(PagesTest):
    def test_the_tenth_item_splits_the_root(self):
        items = at(0, 10, 20, 30, 40, 50, 60, 70, 80, 90)
        self.fill(items)
        # The second half gets its page first.
        self.check_pages({
            1: metric_inner_of(((0,), 40, 3), ((90,), 40, 2)),
            2: metric_leaf_of(*items[5:]),
            3: metric_leaf_of(*items[:5]),
        })
        self.check_new_pages(4)
        self.assertEqual(self.tree.pages(), [1, 3, 2])

    def test_an_inner_page_written_out(self):
        self.begin(2, "sum")
        self.fill([(k, 1, (300 * k, -1)) for k in range(10)])
        data = [4, 2]
        data += [128, 0, 127, 255] + [0, 0, 4, 176] + [0, 0, 0, 3]
        data += [138, 140, 127, 255] + [0, 0, 4, 176] + [0, 0, 0, 2]
        self.check_pages({1: data + [0] * (256 - len(data))})

    def test_the_halves_keep_the_order_of_the_page(self):
        items = at(90, 0, 80, 10, 70, 20, 60, 30, 50, 40)
        self.fill(items)
        self.check_pages({
            1: metric_inner_of(((90,), 40, 3), ((0,), 40, 2)),
            2: metric_leaf_of(*items[1::2]),
            3: metric_leaf_of(*items[::2]),
        })

    def test_an_item_equally_near_to_both_pivots_goes_to_the_first_half(self):
        items = at(40, 0, 80, 40, 41, 39, 1, 2, 78, 79)
        self.fill(items)
        self.check_pages({
            1: metric_inner_of(((0,), 40, 3), ((80,), 39, 2)),
            3: metric_leaf_of(*[items[k] for k in (0, 1, 3, 5, 6, 7)]),
            2: metric_leaf_of(*[items[k] for k in (2, 4, 8, 9)]),
        })

    def test_of_several_pairs_the_first_one_in_the_order_of_the_first(self):
        items = at(5, 10, 0, 5, 10, 0, 5, 0, 10, 6)
        self.fill(items)
        # The pair of the second and the third item, not one of the later ones.
        self.check_pages({
            1: metric_inner_of(((10,), 5, 3), ((0,), 0, 2)),
            2: metric_leaf_of(*[items[k] for k in (2, 5, 7)]),
        })

    def test_the_first_of_the_pair_counts_before_the_second(self):
        self.begin(2, "unlike")
        points = [(0, 0), (0, 1), (1, 0), (1, 1)] + [(0, 0)] * 6
        items = [(key, 1, point) for key, point in enumerate(points)]
        self.fill(items)
        # The first and the fourth are as far apart as the second and the third.
        self.check_pages({
            1: metric_inner_of(((0, 0), 1, 3), ((1, 1), 0, 2)),
            2: metric_leaf_of(items[3]),
            3: metric_leaf_of(*items[:3], *items[4:]),
        })

    def test_of_several_second_ones_the_first(self):
        self.begin(2, "greatest")
        points = [(5, 5), (0, 0), (10, 0), (0, 10), (10, 10)] + [(5, 5)] * 5
        items = [(key, 1, point) for key, point in enumerate(points)]
        self.fill(items)
        self.check_pages({
            1: metric_inner_of(((0, 0), 10, 3), ((10, 0), 0, 2)),
            2: metric_leaf_of(items[2]),
            3: metric_leaf_of(*items[:2], *items[3:]),
        })

    def test_all_points_equal(self):
        for metric in ("sum", "greatest", "unlike"):
            self.begin(2, metric)
            items = [(key, 1, (7, -7)) for key in range(10)]
            self.fill(items)
            # Only the second pivot's own item goes to the second half.
            self.check_pages({
                1: metric_inner_of(((7, -7), 0, 3), ((7, -7), 0, 2)),
                2: metric_leaf_of(items[1]),
                3: metric_leaf_of(items[0], *items[2:]),
            })

    def test_a_leaf_that_is_not_the_root(self):
        self.fill(at(0, 10, 20, 30, 40, 50, 60, 70, 80, 90))
        self.fill([keyed(10, 1), keyed(11, 2), keyed(12, 3), keyed(13, 4)])
        self.check_new_pages(4)
        self.tree.insert(keyed(14, -10))
        # The pivots are those of 40 and -10, in the order of the page.
        self.check_pages({
            1: metric_inner_of(((40,), 20, 3), ((-10,), 20, 4), ((90,), 40, 2)),
            2: metric_leaf_of(*at(0, 10, 20, 30, 40, 50, 60, 70, 80, 90)[5:]),
            3: metric_leaf_of(keyed(2, 20), keyed(3, 30), keyed(4, 40)),
            4: metric_leaf_of(
                keyed(0, 0), keyed(1, 10), keyed(10, 1), keyed(11, 2), keyed(12, 3), keyed(13, 4), keyed(14, -10)
            ),
        })
        self.check_new_pages(5)
        self.assertEqual(self.tree.pages(), [1, 3, 4, 2])

    def test_new_pages_are_the_free_ones_first(self):
        self.begin(1, "sum", 9)
        for page in (5, 7):
            self.pager.release(page)
        self.fill(at(0, 10, 20, 30, 40, 50, 60, 70, 80, 90))
        self.assertEqual(self.tree.pages(), [1, 5, 7])
        self.fill([keyed(20 + k, 1) for k in range(5)])
        self.assertEqual(self.tree.pages(), [1, 5, 9, 7])
        self.check_free()

    def test_the_rest_of_a_reused_page_is_0(self):
        self.begin(1, "sum", 9)
        self.pager.release(5)
        self.pager.write(5, page_of(0)[:4] + filled(9)[4:])
        items = at(0, 10, 20, 30, 40, 50, 60, 70, 80, 90)
        self.fill(items)
        self.check_pages({5: metric_leaf_of(*items[5:])})


class WayTest(PagesTest):
    """Which child an item goes to, and which radii grow."""

    def setUp(self):
        super().setUp()
        self.fill(at(0, 10, 20, 30, 40, 50, 60, 70, 80, 90))
        self.commit()

    def check_root(self, *children):
        self.check_pages({1: metric_inner_of(*children)})

    def test_the_nearest_pivot(self):
        self.tree.insert(keyed(20, 46))
        self.check_root(((0,), 40, 3), ((90,), 44, 2))
        self.tree.insert(keyed(21, 44))
        self.check_root(((0,), 44, 3), ((90,), 44, 2))

    def test_of_several_the_first(self):
        self.tree.insert(keyed(20, 45))
        self.check_root(((0,), 45, 3), ((90,), 40, 2))
        self.assertEqual(self.pager.read(3)[1], 6)

    def test_a_radius_that_reaches_the_item_stays(self):
        self.assertEqual(self.commit(), [])
        self.tree.insert(keyed(20, -40))
        self.assertEqual(self.commit(), [3])
        self.check_root(((0,), 40, 3), ((90,), 40, 2))

    def test_a_radius_grows_to_the_distance(self):
        self.tree.insert(keyed(20, -41))
        self.assertEqual(self.commit(), [1, 3])
        self.check_root(((0,), 41, 3), ((90,), 40, 2))
        self.tree.insert(keyed(21, 32767))
        self.assertEqual(self.commit(), [1, 2])
        self.check_root(((0,), 41, 3), ((90,), 32677, 2))

    def test_equal_pivots(self):
        self.begin(1, "sum")
        self.write({
            1: metric_inner_of(((5,), 0, 4), ((5,), 3, 3), ((5,), 9, 2)),
            4: metric_leaf_of(keyed(1, 5)),
            3: metric_leaf_of(keyed(2, 5)),
            2: metric_leaf_of(keyed(3, 5)),
        })
        self.tree.insert(keyed(4, 7))
        self.check_root(((5,), 2, 4), ((5,), 3, 3), ((5,), 9, 2))
        self.check_pages({4: metric_leaf_of(keyed(1, 5), keyed(4, 7))})

    def test_radii_grow_on_each_page_of_the_way_and_nowhere_else(self):
        self.begin(1, "greatest")
        self.write({
            1: metric_inner_of(((0,), 20, 2), ((100,), 5, 3)),
            2: metric_inner_of(((-10,), 4, 4), ((10,), 4, 5)),
            3: metric_inner_of(((100,), 5, 6)),
            4: metric_leaf_of(keyed(1, -10)),
            5: metric_leaf_of(keyed(2, 10)),
            6: metric_leaf_of(keyed(3, 100)),
        })
        self.tree.insert(keyed(4, 30))
        self.assertEqual(self.commit(), [1, 2, 5])
        self.check_root(((0,), 30, 2), ((100,), 5, 3))
        self.check_pages({2: metric_inner_of(((-10,), 4, 4), ((10,), 20, 5))})
        # The root's radius reaches this one, but that of the next page does not.
        self.tree.insert(keyed(5, -29))
        self.assertEqual(self.commit(), [2, 4])
        self.check_pages({2: metric_inner_of(((-10,), 19, 4), ((10,), 20, 5))})


class SplitInnerTest(PagesTest):
    """Inner pages with nine children, the first of which holds nine items."""

    LEFT = at(-5, -4, -3, -2, -1, 0, 1, 2, 3)

    def write_nine(self, page, first_leaf):
        """Write an inner page and its leaves by hand."""
        children = [((100 * k,), 5, first_leaf + k) for k in range(9)]
        leaves = {first_leaf + k: metric_leaf_of(keyed(10 + k, 100 * k)) for k in range(1, 9)}
        self.write({page: metric_inner_of(*children), first_leaf: metric_leaf_of(*self.LEFT), **leaves})
        return children

    def check_left_leaves(self, first_leaf, second_leaf):
        self.check_pages({
            first_leaf: metric_leaf_of(*self.LEFT[:6]),
            second_leaf: metric_leaf_of(*self.LEFT[6:], keyed(99, 5)),
        })

    def test_the_tenth_child_splits_the_root(self):
        self.begin(1, "sum", 11)
        children = self.write_nine(1, 2)
        self.tree.insert(keyed(99, 5))
        self.check_left_leaves(2, 11)
        # The radii are the distances of the pivots and the radii of the children.
        self.check_pages({
            1: metric_inner_of(((-5,), 310, 13), ((800,), 405, 12)),
            13: metric_inner_of(((-5,), 5, 2), ((5,), 4, 11), *children[1:4]),
            12: metric_inner_of(*children[4:]),
        })
        self.check_new_pages(14)
        self.assertEqual(self.tree.pages(), [1, 13, 2, 11, 3, 4, 5, 12, 6, 7, 8, 9, 10])

    def test_the_tenth_child_splits_a_page_that_is_not_the_root(self):
        self.begin(1, "sum", 30)
        self.write({
            1: metric_inner_of(((5000,), 10, 21), ((0,), 900, 20), ((-5000,), 3, 23)),
            21: metric_inner_of(((5000,), 10, 22)),
            22: metric_leaf_of(keyed(50, 5000)),
            23: metric_leaf_of(keyed(51, -5000)),
        })
        children = self.write_nine(20, 2)
        self.tree.insert(keyed(99, 5))
        self.check_left_leaves(2, 30)
        self.check_pages({
            1: metric_inner_of(((5000,), 10, 21), ((-5,), 310, 20), ((800,), 405, 31), ((-5000,), 3, 23)),
            20: metric_inner_of(((-5,), 5, 2), ((5,), 4, 30), *children[1:4]),
            31: metric_inner_of(*children[4:]),
        })
        self.check_new_pages(32)

    def test_a_child_equally_near_and_the_second_pivots_own_child(self):
        self.begin(1, "sum", 11)
        children = [((7,), k, 2 + k) for k in range(9)]
        items = [keyed(k, 7) for k in range(9)]
        leaves = {2 + k: metric_leaf_of(keyed(10 + k, 7)) for k in range(1, 9)}
        self.write({1: metric_inner_of(*children), 2: metric_leaf_of(*items), **leaves})
        self.tree.insert(keyed(99, 7))
        # All pivots are equal: the second child, the new leaf, stands alone.
        self.check_pages({
            1: metric_inner_of(((7,), 8, 13), ((7,), 0, 12)),
            13: metric_inner_of(((7,), 0, 2), *children[1:]),
            12: metric_inner_of(((7,), 0, 11)),
            11: metric_leaf_of(items[1]),
            2: metric_leaf_of(items[0], *items[2:], keyed(99, 7)),
        })

    def test_a_root_is_split_more_than_once(self):
        depths = []
        for k in range(200):
            self.tree.insert(keyed(k, k))
            depths.append(self.depth())
        self.assertEqual(sorted(set(depths)), list(range(1, depths[-1] + 1)))
        self.assertGreaterEqual(depths[-1], 3)

    def depth(self):
        depth, page = 1, self.pager.read(1)
        while page[0] == 4:
            depth, page = depth + 1, self.pager.read(page[11])
        return depth


class DeleteTest(PagesTest):
    def delete(self, *items):
        for item in items:
            self.assertIsNone(self.tree.delete(item))

    def test_a_root_that_is_a_leaf(self):
        items = at(4, 2, 9, 2)
        self.fill(items)
        self.delete(items[1])
        self.check_pages({1: metric_leaf_of(items[0], items[2], items[3])})
        self.delete(items[3], items[0])
        self.check_pages({1: metric_leaf_of(items[2])})
        self.delete(items[2])
        self.check_pages({1: metric_leaf_of()})
        self.assertEqual(metric_leaf_of(), [3] + [0] * 255)
        self.check_new_pages(2)
        self.check_free()

    def test_items_that_agree_in_the_point_or_in_the_key(self):
        items = [(1, 1, (5,)), (1, 2, (5,)), (2, 1, (5,)), (1, 3, (6,))]
        for k in range(4):
            self.begin(1, "sum")
            self.fill(items)
            self.delete(items[k])
            self.check_pages({1: metric_leaf_of(*items[:k], *items[k + 1:])})

    def test_radii_are_not_changed(self):
        items = at(0, 10, 20, 30, 40, 50, 60, 70, 80, 90)
        self.fill(items)
        self.commit()
        # These are the farthest ones from their pivots, and then the pivots themselves.
        self.delete(items[4], items[5], items[0], items[9])
        self.assertEqual(self.commit(), [2, 3])
        self.check_pages({
            1: metric_inner_of(((0,), 40, 3), ((90,), 40, 2)),
            2: metric_leaf_of(*items[6:9]),
            3: metric_leaf_of(*items[1:4]),
        })

    def test_a_root_with_one_child_takes_over_its_content(self):
        items = at(0, 10, 20, 30, 40, 50, 60, 70, 80, 90)
        for gone, left, first_free in ((items[:5], items[5:], (2, 3)), (items[5:], items[:5], (3, 2))):
            self.begin(1, "sum")
            self.fill(items)
            self.delete(*gone)
            self.check_pages({1: metric_leaf_of(*left)})
            # First the empty leaf is released, then the page that was taken over.
            self.check_free(*first_free)
            self.check_new_pages(4)
            self.assertEqual(self.tree.pages(), [1])

    def test_an_empty_leaf_leaves_its_parent(self):
        self.begin(1, "sum", 5)
        self.write({
            1: metric_inner_of(((0,), 0, 2), ((10,), 0, 3), ((20,), 3, 4)),
            2: metric_leaf_of(keyed(1, 0)),
            3: metric_leaf_of(keyed(2, 10)),
            4: metric_leaf_of(keyed(3, 20)),
        })
        self.delete(keyed(2, 10))
        self.assertEqual(self.commit(), [0, 1, 3])
        self.check_pages({1: metric_inner_of(((0,), 0, 2), ((20,), 3, 4))})
        self.check_free(3)

    def write_deep(self):
        self.begin(1, "sum", 9)
        self.write({
            1: metric_inner_of(((0,), 9, 2), ((100,), 9, 3)),
            2: metric_inner_of(((0,), 9, 4)),
            3: metric_inner_of(((100,), 8, 5)),
            4: metric_inner_of(((0,), 2, 6)),
            5: metric_inner_of(((100,), 7, 7), ((101,), 6, 8)),
            6: metric_leaf_of(keyed(1, 0)),
            7: metric_leaf_of(keyed(2, 100)),
            8: metric_leaf_of(keyed(3, 101)),
        })

    def test_empty_pages_are_released_from_the_leaf_upwards(self):
        self.write_deep()
        self.delete(keyed(1, 0))
        # Then the root takes over page 3, and page 5 through it.
        self.check_free(5, 3, 2, 4, 6)
        self.check_pages({1: metric_inner_of(((100,), 7, 7), ((101,), 6, 8))})
        self.assertEqual(self.tree.pages(), [1, 7, 8])

    def test_an_inner_page_other_than_the_root_keeps_its_only_child(self):
        self.write_deep()
        self.delete(keyed(2, 100))
        self.check_free(7)
        self.check_pages({
            1: metric_inner_of(((0,), 9, 2), ((100,), 9, 3)),
            3: metric_inner_of(((100,), 8, 5)),
            5: metric_inner_of(((101,), 6, 8)),
        })

    def test_the_last_item_of_a_deep_tree(self):
        self.write_deep()
        self.delete(keyed(3, 101), keyed(1, 0))
        self.check_pages({1: metric_leaf_of(keyed(2, 100))})
        self.check_free(7, 5, 3, 2, 4, 6, 8)
        self.delete(keyed(2, 100))
        self.check_pages({1: metric_leaf_of()})
        self.check_free(7, 5, 3, 2, 4, 6, 8)
        self.assertEqual(self.tree.all_items(), [])

    def test_a_root_whose_way_has_only_children_becomes_an_empty_leaf(self):
        self.begin(1, "sum", 4)
        self.write({
            1: metric_inner_of(((0,), 9, 2)),
            2: metric_inner_of(((0,), 9, 3)),
            3: metric_leaf_of(keyed(1, 0)),
        })
        self.delete(keyed(1, 0))
        self.check_pages({1: metric_leaf_of()})
        self.check_free(2, 3)

    def write_overlapping(self):
        """Write leaves whose radii reach the place 5 all but once."""
        self.begin(1, "sum", 6)
        self.write({
            1: metric_inner_of(((0,), 5, 2), ((9,), 4, 3), ((1,), 3, 4), ((5,), 0, 5)),
            2: metric_leaf_of(keyed(1, 5), keyed(2, 0)),
            3: metric_leaf_of(keyed(3, 5), keyed(4, 9)),
            4: metric_leaf_of(keyed(5, 1), keyed(6, 4)),
            5: metric_leaf_of(keyed(7, 5), keyed(8, 5)),
        })

    def test_an_item_that_several_children_may_hold(self):
        for key, page, left in ((1, 2, [keyed(2, 0)]), (3, 3, [keyed(4, 9)]), (7, 5, [keyed(8, 5)])):
            self.write_overlapping()
            self.delete(keyed(key, 5))
            # No other page is changed, not even with the same content.
            self.assertEqual(self.commit(), [page])
            self.check_pages({page: metric_leaf_of(*left)})

    def test_items_that_several_children_may_hold_in_several_orders(self):
        for order in ((1, 3, 7, 8, 2, 4, 5, 6), (8, 7, 3, 1, 6, 5, 4, 2), (3, 8, 1, 7, 4, 2, 6, 5)):
            self.write_overlapping()
            places = {1: 5, 2: 0, 3: 5, 4: 9, 5: 1, 6: 4, 7: 5, 8: 5}
            for key in order:
                self.delete(keyed(key, places.pop(key)))
                self.assertEqual(self.tree.all_items(), [keyed(key, place) for key, place in sorted(places.items())])
            self.check_pages({1: metric_leaf_of()})

    def test_children_are_visited_in_order_until_the_item_is_found(self):
        # The same item stands in several leaves, out of reach in the first one.
        self.begin(1, "sum", 6)
        self.write({
            1: metric_inner_of(((0,), 4, 2), ((9,), 4, 3), ((1,), 4, 4), ((5,), 0, 5)),
            **{page: metric_leaf_of(keyed(page, 3), keyed(1, 5)) for page in (2, 3, 4, 5)},
        })
        for page in (3, 4, 5):
            self.delete(keyed(1, 5))
            self.assertEqual(self.commit(), [page])
            self.check_pages({page: metric_leaf_of(keyed(page, 3))})

    def test_a_released_page_is_used_again(self):
        self.fill(at(0, 10, 20, 30, 40, 50, 60, 70, 80, 90))
        self.delete(*at(0, 10, 20, 30, 40))
        self.check_free(2, 3)
        self.fill([keyed(20 + k, -k) for k in range(5)])
        self.assertEqual(self.tree.pages(), [1, 3, 2])
        self.check_free()
        self.check_new_pages(4)


class SameRootTest(PagesTest):
    def test_a_second_tree_over_the_same_root(self):
        other = MetricTree(self.pager, 1, 1, "sum")
        items = at(*range(0, 300, 7))
        for k, item in enumerate(items):
            (self.tree, other)[k % 2].insert(item)
        self.assertEqual(other.all_items(), sorted(items))
        self.assertEqual(self.tree.pages(), other.pages())
        for k, item in enumerate(items[:30]):
            (other, self.tree)[k % 2].delete(item)
        self.assertEqual(self.tree.all_items(), sorted(items[30:]))
        self.assertEqual(other.nearest((0,), 1, lambda key, begin: True), [(210, 30, 1, (210,))])

    def test_several_trees_in_one_pager(self):
        self.begin(1, "sum", 3)
        other = MetricTree(self.pager, 2, 1, "unlike")
        self.fill(at(*range(40)))
        for item in at(*range(60)):
            other.insert(item)
        self.assertEqual(sorted(self.tree.pages() + other.pages()), list(range(1, self.pager.field(6))))
        self.assertEqual(self.tree.all_items(), at(*range(40)))
        self.assertEqual(other.all_items(), at(*range(60)))

    def test_trees_deeper_than_calls_may_be_nested(self):
        self.begin(1, "sum", 3000)
        self.write({page: metric_inner_of(((0,), 5, page + 1)) for page in range(1, 2500)})
        self.write({2500: metric_leaf_of(keyed(1, 0), keyed(2, 5))})
        self.assertEqual(self.tree.pages(), list(range(1, 2501)))
        self.assertEqual(self.tree.all_items(), [keyed(1, 0), keyed(2, 5)])
        self.assertEqual(self.tree.nearest((4,), 9, lambda key, begin: True), [(1, 2, 1, (5,)), (4, 1, 1, (0,))])
        self.tree.insert(keyed(3, 1))
        self.tree.delete(keyed(1, 0))
        # An inner root with one child is taken over, which is repeated.
        self.check_pages({1: metric_leaf_of(keyed(2, 5), keyed(3, 1))})
        self.check_free(*range(2500, 1, -1))


if __name__ == "__main__":
    unittest.main()
