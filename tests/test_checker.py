"""Tests of nearvault.checker: pages that are right, and pages that break each rule of point 26."""

import unittest

from nearvault.checker import check_pages
from nearvault.device import Device
from nearvault.pager import Pager
from nearvault.store import Store
from support import ZEROS, filled, inner_of, leaf_of, metric_inner_of, metric_leaf_of, opened, padded, page_of

GREATEST = 2**32 - 1

# A store in 1 dimension with the metric "sum" and the last commit number 9.
HEAD = (1, 1, 0, 9, 1, 2, 12, 9)
KEY_CHILDREN = [(0, 0, 3), (20, 1, 4), (40, 1, 5)]
ENTRIES = {
    3: [(1, 1, 0, (0,), ()), (10, 2, 3, (5,), (7,)), (10, 3, 0, (6,), (7, 8))],
    4: [(20, 1, 4, (10,), ()), (20, 5, 0, (10,), (1,) * 40), (30, 2, 9, (11,), ())],
    5: [(40, 9, 0, (-100,), ())],
}
METRIC_CHILDREN = [((0,), 6, 6), ((10,), 1, 7), ((-100,), 0, 8)]
ITEMS = {
    6: [(1, 1, (0,)), (10, 2, (5,)), (10, 3, (6,))],
    7: [(20, 1, (10,)), (30, 2, (11,)), (20, 5, (10,))],
    8: [(40, 9, (-100,))],
}


def right_pages():
    """Return the pages of the store, whose free pages are 9, 11 and 10."""
    pages = {0: page_of(*HEAD), 1: inner_of(*KEY_CHILDREN), 2: metric_inner_of(*METRIC_CHILDREN)}
    pages.update({page: leaf_of(*entries) for page, entries in ENTRIES.items()})
    pages.update({page: metric_leaf_of(*items) for page, items in ITEMS.items()})
    return {**pages, 9: page_of(11), 11: page_of(10), 10: ZEROS}


def with_item(items, place, item):
    """Return items with another one in the place of one of them."""
    return items[:place] + [item] + items[place + 1:]


class CheckerTest(unittest.TestCase):
    def result(self, pages):
        device = Device()
        pager = Pager(device)
        for number, content in pages.items():
            self.assertEqual(len(content), 256)
            pager.write(number, content)
        found = check_pages(pager)
        # Checking needs no power and changes no page.
        self.assertEqual(device.steps(), 0)
        for number, content in pages.items():
            self.assertEqual(pager.read(number), content)
        return found

    def check(self, expected, changed):
        """Check the store with some pages in the place of its own."""
        found = self.result({**right_pages(), **changed})
        self.assertEqual(found, expected, {page: bytes(content).hex(" ") for page, content in changed.items()})

    def check_byte(self, expected, page, place, byte):
        content = list(right_pages()[page])
        self.assertNotEqual(content[place], byte)
        content[place] = byte
        self.check(expected, {page: content})

    def check_head(self, expected, field, number):
        self.check(expected, {0: page_of(*HEAD[:field], number, *HEAD[field + 1:])})

    def check_entries(self, expected, page, entries):
        self.check(expected, {page: leaf_of(*entries)})


class RightTest(CheckerTest):
    def test_the_pages_above(self):
        self.check(0, {})

    def test_what_is_not_told_by_a_rule(self):
        # The pair of the first child is not used, and radii may be too great.
        self.check(0, {1: inner_of((GREATEST, GREATEST, 3), *KEY_CHILDREN[1:])})
        self.check(0, {2: metric_inner_of(((7,), 32000, 6), ((10,), GREATEST, 7), ((-100,), 5, 8))})
        # Items of the metric tree may stand in any leaf and in any order.
        self.check(0, {6: metric_leaf_of(*ITEMS[6][::-1])})
        self.check(0, {
            2: metric_inner_of(((0,), 100, 6), ((10,), 1, 7), ((0,), 0, 8)),
            6: metric_leaf_of(*ITEMS[8], *ITEMS[6][1:]),
            8: metric_leaf_of(ITEMS[6][0]),
        })
        # A pair may be any that parts the entries on both sides.
        self.check(0, {1: inner_of(KEY_CHILDREN[0], (10, 4, 4), (30, 3, 5))})
        self.check(0, {1: inner_of(KEY_CHILDREN[0], (20, 1, 4), (40, 9, 5))})
        # Pages beyond the number of pages are not asked.
        self.check(0, {12: filled(7), 77: filled(1), GREATEST: filled(255)})

    def test_a_store_without_records(self):
        head = page_of(1, 8, 2, 0, 1, 2, 3, 0)
        self.assertEqual(self.result({0: head}), 0)
        self.assertEqual(self.result({0: head, 1: leaf_of(), 2: metric_leaf_of()}), 0)
        self.assertEqual(self.result({0: page_of(1, 8, 2, GREATEST, 2, 1, 4, 3)}), 0)

    def test_the_newest_pages_of_a_pager(self):
        device = Device()
        pager = Pager(device)
        for number, content in right_pages().items():
            pager.write(number, content)
        self.assertEqual(check_pages(pager), 0)
        pager.commit()
        pager.set_field(3, 8)
        self.assertEqual(check_pages(pager), 7)
        pager.rollback()
        self.assertEqual(check_pages(pager), 0)
        self.assertEqual(check_pages(Pager(device)), 0)

    def test_an_inner_page_of_each_length(self):
        for many in range(1, 21):
            pages = {0: page_of(1, 1, 0, 9, 1, 2, 3 + many, 0)}
            pages[1] = inner_of(*[(key, 1, 3 + key) for key in range(many)])
            entries = [(key, 1, 0, (0,), ()) for key in range(many)]
            pages.update({3 + key: leaf_of(entries[key]) for key in range(many)})
            pages[2] = metric_leaf_of(*[(key, 1, (0,)) for key in range(many)])
            self.assertEqual(self.result(pages), 0 if many <= 9 else 4)

    def test_metric_pages_of_each_length(self):
        for dimensions in (1, 8):
            point = (5,) * dimensions
            for many in range(1, 11):
                # Each leaf of both trees has one item.
                children = [(point, 0, 3 + many + k) for k in range(many)]
                pages = {
                    0: page_of(1, dimensions, 1, 1, 1, 2, 3 + 2 * many, 0),
                    1: inner_of(*[(k, 1, 3 + k) for k in range(many)]),
                    2: metric_inner_of(*children) if many < 10 else [4, 10] + metric_inner_of(*children[:9])[2:],
                }
                pages.update({3 + k: leaf_of((k, 1, 0, point, ())) for k in range(many)})
                pages.update({3 + many + k: metric_leaf_of((k, 1, point)) for k in range(many)})
                self.assertEqual(self.result(pages), 0 if many < 10 else 4, (dimensions, many))

    def test_deep_trees(self):
        # Trees that are deeper than calls may be nested.
        pages = {page: inner_of((5, 5, page + 1)) for page in range(1, 2000)}
        pages[2000] = leaf_of((1, 1, 0, (3,), ()))
        pages.update({page: metric_inner_of(((0,), 3, page + 1)) for page in range(2001, 4000)})
        pages[4000] = metric_leaf_of((1, 1, (3,)))
        pages[0] = page_of(1, 1, 0, 9, 1, 2001, 4001, 0)
        self.assertEqual(self.result(pages), 0)
        self.assertEqual(self.result({**pages, 2003: metric_inner_of(((0,), 2, 2004))}), 5)
        self.assertEqual(self.result({**pages, 1999: inner_of((5, 5, 2000), (6, 5, 1))}), 2)
        self.assertEqual(self.result({**pages, 2000: ZEROS}), 2)

    def test_the_pages_of_a_store(self):
        for dimensions, metric in ((1, "unlike"), (2, "sum"), (8, "greatest")):
            device = Device()
            store = Store(device, dimensions, metric)
            self.assertEqual(check_pages(opened(device)), 0)
            for turn in range(6):
                transaction = store.begin()
                for key in range(turn * 5, turn * 5 + 40):
                    store.put(transaction, key, (key - 20,) * dimensions, (key,) * turn)
                store.delete(transaction, turn)
                store.commit(transaction)
                self.assertEqual(check_pages(opened(device)), 0)
            store.vacuum()
            store.checkpoint()
            self.assertEqual(check_pages(Pager(device)), 0)


class HeadTest(CheckerTest):
    def test_rule_1(self):
        for field, numbers in ((0, (0, 2, 257, 2**24)), (1, (0, 9, 256, GREATEST)), (2, (3, 256, GREATEST))):
            for number in numbers:
                self.check_head(1, field, number)
        for place in (32, 33, 100, 127, 128, 255):
            self.check_byte(1, 0, place, 1)
            self.check_byte(1, 0, place, 255)

    def test_an_empty_device(self):
        self.assertEqual(check_pages(Pager(Device())), 1)
        self.assertEqual(self.result({0: ZEROS}), 1)

    def test_other_numbers_of_the_head(self):
        # Other dimensions and another metric than those of the trees.
        self.check_head(2, 1, 2)
        self.check_head(3, 1, 8)
        # In one dimension both metrics are the same, but not the third one.
        self.check_head(0, 2, 1)
        for number in (0, 1, 8):
            self.check_head(7, 3, number)
        self.check_head(0, 3, 10)
        for number in (0, 2, 6, 9, 11, 12, 13, 77, GREATEST):
            self.check_head(2, 4, number)
        for number in (0, 1, 3, 9, 11, 12, GREATEST):
            self.check_head(4, 5, number)
        # Other leaves of the right tree, and an empty page, are trees with fewer items.
        for number in (3, 10):
            self.check_head(6, 4, number)
        for number in (6, 10):
            self.check_head(6, 5, number)
        for number in (0, 1, 5):
            self.check_head(2, 6, number)
        for number in (6, 8):
            self.check_head(4, 6, number)
        for number in (9, 10, 11, 13, 2**31, GREATEST):
            self.check_head(8, 6, number)
        for number in (0, 1, 3, 8, 10, 11, 12, GREATEST):
            self.check_head(8, 7, number)


class KeyTreePagesTest(CheckerTest):
    def check_root(self, expected, *children):
        self.check(expected, {1: inner_of(*children)})

    def test_the_byte_of_the_kind(self):
        for byte in (0, 3, 4, 5, 255):
            self.check_byte(2, 1, 0, byte)
        for page in (3, 4, 5):
            for byte in (0, 2, 3, 4, 5, 255):
                self.check_byte(2, page, 0, byte)

    def test_the_number_of_items(self):
        for byte in (0, 1, 2, 4, 20, 21, 22, 255):
            self.check_byte(2, 1, 1, byte)
        for byte in (0, 1, 2, 17, 18, 255):
            self.check_byte(2, 3, 1, byte)
        # Up to 16 entries of zeros still fit, but they do not ascend.
        for byte in (4, 16):
            self.check_byte(3, 3, 1, byte)

    def test_a_byte_behind_the_items(self):
        for place in (2 + 36, 100, 255):
            self.check_byte(2, 1, place, 1)
        end = 2 + 15 + 16 + 17
        for place in (end, 128, 255):
            self.check_byte(2, 3, place, 1)

    def test_an_empty_page_other_than_the_root(self):
        for page in (3, 4, 5):
            self.check(2, {page: leaf_of()})
            self.check(2, {page: ZEROS})
            self.check(2, {page: inner_of()})
        self.check(2, {1: inner_of()})
        # An empty root is none of these, but then the entries are gone.
        self.check(6, {1: leaf_of()})
        self.check(6, {1: ZEROS})
        self.check(2, {1: padded([0, 0, 1])})
        self.check(2, {1: padded([1, 0, 0, 1])})

    def test_the_length_of_a_payload(self):
        place = 2 + 12 + 2
        for byte in (41, 42, 255):
            self.check_byte(2, 3, place, byte)
        # Of 41 and more bytes, with all of them there.
        self.check_entries(2, 5, [(40, 9, 0, (-100,), (0,) * 41)])
        self.check_entries(2, 5, [(40, 9, 0, (-100,), (0,) * 239)])
        self.check_entries(0, 5, [(40, 9, 0, (-100,), (0,) * 40)])
        # Of more bytes than are left in the page.
        self.check(2, {5: padded([1, 1] + [0] * 14 + [255])})

    def test_entries_that_do_not_fit_into_the_page(self):
        full = [(40 + k, 1, 0, (0,), (1,) * 40) for k in range(4)]
        page = leaf_of(*full)
        self.assertEqual(len(page), 256)
        for many, length in ((5, 255), (5, 21), (5, 22), (6, 0)):
            # The fifth entry would begin behind 222 bytes.
            content = [1, many] + page[2:222] + [0, 0, 0, 50, 0, 0, 0, 1, 0, 0, 0, 0, 128, 0, length] + [1] * 19
            self.check(2, {5: content})
        content = [1, 5] + page[2:222] + [0, 0, 0, 50, 0, 0, 0, 1, 0, 0, 0, 0, 128, 0, 19] + [1] * 19
        # With 19 bytes it ends where the page does; only the items are missing then.
        self.check(6, {5: content})

    def test_entries_that_fill_the_page_to_its_last_byte(self):
        for lengths in ((40, 40, 40, 22, 22, 0), (0, 40, 40, 40, 22, 22)):
            entries = [(key, 1, 0, (0,), (5,) * length) for key, length in enumerate(lengths)]
            self.assertEqual(2 + sum(15 + length for length in lengths), 256)
            pages = {0: page_of(1, 1, 0, 9, 1, 2, 3, 0), 1: leaf_of(*entries)}
            pages[2] = metric_leaf_of(*[(key, 1, (0,)) for key in range(6)])
            self.assertEqual(self.result(pages), 0)
            # A seventh one has no place any more.
            pages[1] = [1, 7] + pages[1][2:]
            self.assertEqual(self.result(pages), 2)

    def test_the_order_of_pairs(self):
        first, second, third = KEY_CHILDREN
        self.check_root(2, first, third[:2] + (4,), second[:2] + (5,))
        self.check_root(2, first, (20, 1, 4), (20, 1, 5))
        self.check_root(2, first, (20, 2, 4), (20, 1, 5))
        self.check_root(2, first, (21, 0, 4), (20, 1, 5))

    def test_the_page_of_a_child(self):
        first, second, third = KEY_CHILDREN
        # 0, its own page, a page that occurs twice, one of the other tree, free ones, and beyond.
        for page in (0, 1, 3, 5, 2, 6, 7, 9, 10, 11, 12, 13, 1000, GREATEST):
            self.check_root(2, first, second[:2] + (page,), third)
        for page in (0, 1, 4, 5, 2, 8, 9, 12, GREATEST):
            self.check_root(2, (0, 0, page), second, third)

    def test_a_cycle(self):
        self.check(2, {3: inner_of((0, 0, 1))})
        self.check(2, {3: inner_of((0, 0, 3))})
        self.check(2, {3: inner_of((0, 0, 9)), 9: inner_of((0, 0, 3))})
        self.check(2, {3: inner_of((0, 0, 9)), 9: inner_of((0, 0, 4))})

    def test_a_right_page_below_another_one(self):
        # Leaves may stand at any depth; then page 9 is not free.
        self.check(8, {3: inner_of((0, 0, 9)), 9: leaf_of(*ENTRIES[3])})
        self.check(0, {0: page_of(*HEAD[:7], 11), 3: inner_of((0, 0, 9)), 9: leaf_of(*ENTRIES[3])})


class EntriesTest(CheckerTest):
    def test_the_order_of_entries(self):
        entries = ENTRIES[3]
        self.check_entries(3, 3, [entries[1], entries[0], entries[2]])
        self.check_entries(3, 3, [entries[0], entries[2], entries[1]])
        self.check_entries(3, 3, entries[::-1])
        self.check_entries(3, 3, [entries[0], entries[1], entries[1], entries[2]])
        self.check_entries(3, 4, [ENTRIES[4][0], ENTRIES[4][0]])

    def test_an_entry_in_a_wrong_page(self):
        low, high = ENTRIES[3], ENTRIES[4]
        self.check_entries(3, 3, low + [(20, 1, 4, (10,), ())])
        self.check_entries(3, 3, low + [(39, 1, 0, (10,), ())])
        self.check_entries(3, 5, [(39, 9, 0, (-100,), ())])
        self.check_entries(3, 5, [(40, 0, 0, (-100,), ())])
        self.check(3, {3: leaf_of(*low, high[0]), 4: leaf_of(*high[1:])})
        self.check(3, {3: leaf_of(*low[:2]), 4: leaf_of(low[2], *high)})
        # The entries still ascend, but one pair is not the right one any more.
        for pair in ((20, 2), (20, 5), (40, 0), (10, 3), (10, 2), (1, 1), (0, 0)):
            self.check(3, {1: inner_of(KEY_CHILDREN[0], pair + (4,), KEY_CHILDREN[2])})
        for pair in ((40, 10), (41, 0), (30, 2), (20, 5), (GREATEST, 0)):
            self.check(3, {1: inner_of(KEY_CHILDREN[0], KEY_CHILDREN[1], pair + (5,))})

    def test_the_pairs_of_all_pages_on_the_way(self):
        head = page_of(*HEAD[:7], 10)
        pages = {0: head, 9: inner_of((7, 7, 4), (40, 1, 5)), 11: ZEROS, 10: page_of(11)}
        self.check(0, {**pages, 1: inner_of((0, 0, 3), (20, 1, 9))})
        self.check(0, {**pages, 1: inner_of((0, 0, 3), (10, 4, 9))})
        self.check(3, {**pages, 1: inner_of((0, 0, 3), (20, 2, 9))})
        self.check(3, {**pages, 1: inner_of((0, 0, 3), (10, 3, 9))})
        # The same with the inner page in front.
        pages[9] = inner_of((7, 7, 3), (20, 1, 4))
        self.check(0, {**pages, 1: inner_of((0, 0, 9), (40, 1, 5))})
        self.check(0, {**pages, 1: inner_of((0, 0, 9), (30, 3, 5))})
        self.check(3, {**pages, 1: inner_of((0, 0, 9), (30, 2, 5))})
        self.check(3, {**pages, 1: inner_of((0, 0, 9), (15, 0, 5))})
        # The order of entries in different leaves.
        pages[9] = inner_of((7, 7, 4), (20, 1, 3))
        self.check(3, {**pages, 1: inner_of((0, 0, 9), (40, 1, 5))})


class MetricTreePagesTest(CheckerTest):
    def test_the_byte_of_the_kind(self):
        for byte in (0, 1, 2, 5, 255):
            self.check_byte(4, 2, 0, byte)
        # As a leaf the root would have three items, but not the right ones.
        self.check_byte(6, 2, 0, 3)
        for page in (6, 7, 8):
            for byte in (0, 1, 2, 4, 5, 255):
                self.check_byte(4, page, 0, byte)

    def test_the_number_of_items(self):
        for byte in (0, 1, 2, 4, 9, 10, 255):
            self.check_byte(4, 2, 1, byte)
        for byte in (0, 1, 2, 10, 25, 26, 255):
            self.check_byte(4, 6, 1, byte)
        # More items, with only zeros, are still a leaf.
        for byte in (4, 9):
            self.check_byte(5, 7, 1, byte)
        for byte in (2, 9):
            self.check_byte(5, 8, 1, byte)

    def test_a_byte_behind_the_items(self):
        for page in (2, 6):
            for place in (2 + 30, 100, 255):
                self.check_byte(4, page, place, 1)

    def test_a_page_with_ten_items(self):
        items = [(100 + k, 1, (0,)) for k in range(9)]
        self.check(6, {6: metric_leaf_of(*items)})
        self.check(4, {6: metric_leaf_of(*items, (200, 1, (0,)))})
        self.check(4, {2: metric_inner_of(*METRIC_CHILDREN, *[((0,), 0, 20 + k) for k in range(7)])})

    def test_an_empty_page_other_than_the_root(self):
        for page in (6, 7, 8):
            self.check(4, {page: metric_leaf_of()})
            self.check(4, {page: ZEROS})
            self.check(4, {page: metric_inner_of()})
        self.check(4, {2: metric_inner_of()})
        self.check(6, {2: metric_leaf_of()})
        self.check(6, {2: ZEROS})
        self.check(4, {2: padded([0, 0, 1])})
        self.check(4, {2: padded([3, 0] + [0] * 253 + [1])})

    def test_the_page_of_a_child(self):
        first, second, third = METRIC_CHILDREN
        # 0, its own page, pages that occur twice, those of the key tree, free ones, and beyond.
        for page in (0, 2, 6, 8, 1, 3, 4, 5, 9, 10, 11, 12, 13, 1000, GREATEST):
            self.check(4, {2: metric_inner_of(first, second[:2] + (page,), third)})
        self.check(4, {6: metric_inner_of(((0,), 6, 2))})
        self.check(4, {6: metric_inner_of(((0,), 6, 6))})
        self.check(4, {6: metric_inner_of(((0,), 6, 9)), 9: metric_inner_of(((0,), 6, 7))})

    def test_a_right_page_below_another_one(self):
        pages = {6: metric_inner_of(((0,), 6, 9)), 9: metric_leaf_of(*ITEMS[6])}
        self.check(8, pages)
        self.check(0, {0: page_of(*HEAD[:7], 11), **pages})


class RadiiTest(CheckerTest):
    def test_a_radius_too_small_by_1(self):
        first, second, third = METRIC_CHILDREN
        self.check(5, {2: metric_inner_of(((0,), 5, 6), second, third)})
        self.check(5, {2: metric_inner_of(first, ((10,), 0, 7), third)})
        self.check(5, {2: metric_inner_of(first, second, ((-101,), 0, 8))})
        self.check(0, {2: metric_inner_of(first, second, ((-101,), 1, 8))})

    def test_another_pivot(self):
        first, second, third = METRIC_CHILDREN
        self.check(5, {2: metric_inner_of(((-1,), 6, 6), second, third)})
        self.check(0, {2: metric_inner_of(((1,), 6, 6), second, third)})

    def test_the_radius_reaches_the_items_on_all_pages_below(self):
        head = page_of(*HEAD[:7], 11)
        leaf = metric_leaf_of(*ITEMS[6])
        for radius, inner_radius, expected in ((6, 6, 0), (6, 99, 0), (99, 6, 0), (5, 6, 5), (6, 5, 5)):
            root = metric_inner_of(((0,), radius, 6), *METRIC_CHILDREN[1:])
            self.check(expected, {0: head, 2: root, 6: metric_inner_of(((0,), inner_radius, 9)), 9: leaf})

    def test_each_metric(self):
        # The points (0, 0) and (3, 4): the radius is the least that reaches both.
        for metric, least in enumerate((7, 4, 2)):
            for radius in (least - 1, least):
                pages = {
                    0: page_of(1, 2, metric, 1, 1, 2, 4, 0),
                    1: leaf_of((1, 1, 0, (0, 0), ()), (2, 1, 0, (3, 4), ())),
                    2: metric_inner_of(((0, 0), radius, 3)),
                    3: metric_leaf_of((1, 1, (0, 0)), (2, 1, (3, 4))),
                }
                self.assertEqual(self.result(pages), 0 if radius == least else 5)


class SameItemsTest(CheckerTest):
    def test_an_item_too_many(self):
        for item in ((10, 3, (6,)), (10, 2, (5,)), (2, 1, (0,)), (1, 2, (0,)), (1, 1, (1,))):
            self.check(6, {6: metric_leaf_of(*ITEMS[6], item)})
        # The same item in another leaf.
        self.check(6, {7: metric_leaf_of(*ITEMS[7], (20, 1, (10,)))})

    def test_an_item_too_few(self):
        for k in range(3):
            self.check(6, {6: metric_leaf_of(*ITEMS[6][:k], *ITEMS[6][k + 1:])})

    def test_another_key_begin_or_point(self):
        for item in ((2, 1, (0,)), (1, 2, (0,)), (1, 1, (1,)), (10, 2, (5,))):
            self.check(6, {6: metric_leaf_of(*with_item(ITEMS[6], 0, item))})
        self.check_entries(6, 3, with_item(ENTRIES[3], 0, (1, 1, 0, (1,), ())))
        self.check_entries(6, 3, with_item(ENTRIES[3], 0, (2, 1, 0, (0,), ())))

    def test_an_entry_too_few_or_too_many(self):
        self.check_entries(6, 3, ENTRIES[3][:2])
        self.check_entries(6, 3, ENTRIES[3] + [(11, 1, 0, (0,), ())])

    def test_two_points_exchanged(self):
        self.check(6, {6: metric_leaf_of((1, 1, (0,)), (10, 2, (6,)), (10, 3, (5,)))})


class VersionsTest(CheckerTest):
    def check_versions(self, expected, *versions):
        """Check a store with these versions `(key, begin, end)` and the last commit number 9."""
        pages = {
            0: page_of(1, 1, 0, 9, 1, 2, 3, 0),
            1: leaf_of(*[version + ((0,), ()) for version in versions]),
            2: metric_leaf_of(*[(key, begin, (0,)) for key, begin, _ in versions]),
        }
        self.assertEqual(self.result(pages), expected, versions)

    def test_a_begin(self):
        for begin, expected in ((0, 7), (1, 0), (9, 0), (10, 7), (GREATEST, 7)):
            self.check_versions(expected, (5, begin, 0))

    def test_an_end(self):
        for end, expected in ((0, 0), (1, 7), (3, 7), (4, 7), (5, 0), (9, 0), (10, 7), (GREATEST, 7)):
            self.check_versions(expected, (5, 4, end))
        for end in (1, 3, 10, GREATEST):
            self.check_entries(7, 3, with_item(ENTRIES[3], 2, (10, 3, end, (6,), (7, 8))))

    def test_two_entries_with_the_same_key(self):
        for end, expected in ((0, 7), (3, 0), (4, 0), (5, 0), (6, 7), (9, 7)):
            self.check_versions(expected, (5, 2, end), (5, 5, 0))
            self.check_versions(expected, (5, 2, end), (5, 5, 7))
            self.check_versions(expected, (5, 1, 2), (5, 2, end), (5, 5, 9), (6, 1, 0))
        # Other keys have nothing to do with each other.
        self.check_versions(0, (5, 2, 0), (6, 1, 0), (7, 1, 9), (8, 1, 0))

    def test_two_entries_of_different_leaves(self):
        pages = {1: inner_of((0, 0, 3), (10, 3, 4), KEY_CHILDREN[2])}
        low, high = ENTRIES[3][:2], ENTRIES[3][2:] + ENTRIES[4]
        self.check(0, {**pages, 3: leaf_of(*low), 4: leaf_of(*high)})
        for end in (0, 4, 9):
            entries = with_item(low, 1, (10, 2, end, (5,), (7,)))
            self.check(7, {**pages, 3: leaf_of(*entries), 4: leaf_of(*high)})


class FreePagesTest(CheckerTest):
    def test_a_byte_in_a_free_page(self):
        for page in (9, 10, 11):
            for place in (4, 5, 128, 255):
                self.check_byte(8, page, place, 1)

    def test_cycles(self):
        self.check(8, {9: page_of(9)})
        self.check(8, {10: page_of(9)})
        self.check(8, {10: page_of(10)})
        self.check(8, {11: page_of(9)})

    def test_pages_that_are_not_free(self):
        for page in (1, 2, 3, 6, 8, 12, 13, 1000, GREATEST):
            self.check(8, {10: page_of(page)})
        # The next one is not page 256, whose number ends with 0.
        self.check(8, {10: page_of(256)})

    def test_a_page_that_is_nowhere(self):
        self.check(8, {9: page_of(10)})
        self.check(8, {9: ZEROS})
        self.check(8, {11: ZEROS})
        self.check_head(8, 7, 0)
        self.check(8, {10: page_of(12)})
        self.check(0, {0: page_of(*HEAD[:6], 13, 9), 10: page_of(12)})
        # As many pages as there should be, but not the right ones.
        for page in (12, 13, 77, GREATEST):
            self.check(8, {11: page_of(page)})

    def test_free_pages_in_any_order(self):
        self.check(0, {0: page_of(*HEAD[:7], 10), 10: page_of(9), 9: page_of(11), 11: ZEROS})


class SeveralRulesTest(CheckerTest):
    """Several rules are broken at once: the first one is told."""

    BREAKS = {
        1: {},
        2: {5: leaf_of()},
        3: {3: leaf_of(*ENTRIES[3][::-1])},
        4: {8: metric_leaf_of()},
        5: {7: metric_leaf_of(*with_item(ITEMS[7], 1, (30, 2, (12,))))},
        6: {6: metric_leaf_of(*ITEMS[6][:2])},
        7: {4: leaf_of(*with_item(ENTRIES[4], 2, (30, 2, 10, (11,), ())))},
        8: {9: page_of(9)},
    }

    def test_each_rule_alone(self):
        for rule in range(2, 9):
            self.check(rule, self.BREAKS[rule])

    def test_each_two_rules(self):
        head = page_of(*HEAD)
        head[40] = 1
        for first in range(1, 9):
            for second in range(first + 1, 9):
                changed = {**self.BREAKS[second], **self.BREAKS[first]}
                if first == 1:
                    changed[0] = head
                self.check(first, changed)

    def test_all_rules(self):
        changed = {}
        for rule in range(8, 1, -1):
            changed.update(self.BREAKS[rule])
            self.check(rule, changed)


if __name__ == "__main__":
    unittest.main()
