"""Tests of nearvault.keytree: its pages, byte by byte, against points 12 to 14."""

import unittest

from nearvault.device import Device
from nearvault.keytree import KeyTree
from nearvault.log import read_groups
from nearvault.pager import Pager
from support import ZEROS, filled, inner_of, leaf_of, page_of

GREATEST = 2**32 - 1

# In 8 dimensions an entry with a full payload has 69 bytes: a leaf has at most three.
BIG_POINT = (1, -1, 0, 32767, -32768, 5, 6, 7)
FULL = tuple(range(40))


def big(key, begin=1):
    return (key, begin, 0, BIG_POINT, FULL)


def small(key, begin=1, payload=0):
    """Return an entry in 1 dimension; it has 15 bytes and those of its payload."""
    return (key, begin, 0, (key % 1000,), (7,) * payload)


class PagesTest(unittest.TestCase):
    def setUp(self):
        self.begin(8)

    def begin(self, dimensions, first_new_page=2):
        self.device = Device()
        self.pager = Pager(self.device)
        self.pager.set_field(6, first_new_page)
        self.tree = KeyTree(self.pager, 1, dimensions)

    def write(self, pages):
        """Write pages by hand, and commit them."""
        for number, content in pages.items():
            self.pager.write(number, content)
        self.commit()

    def fill(self, entries):
        for entry in entries:
            self.tree.insert(entry)

    def commit(self):
        """Commit, and return the numbers of the pages that were dirty."""
        before = len(read_groups(self.device.log()))
        self.pager.commit()
        return [number for pairs in read_groups(self.device.log())[before:] for number, _ in pairs]

    def check_pages(self, expected):
        for number, content in expected.items():
            self.assertEqual(self.pager.read(number), content, f"page {number}")

    def check_free(self, *expected):
        """Check the free pages, the first one first, byte by byte."""
        number = self.pager.field(7)
        for page, following in zip(expected, expected[1:] + (0,)):
            self.assertEqual(number, page)
            self.assertEqual(self.pager.read(page), page_of(following))
            number = following
        self.assertEqual(number, 0)

    def check_new_pages(self, end):
        self.assertEqual(self.pager.field(6), end)


class LeafTest(PagesTest):
    def test_one_entry_written_out(self):
        self.begin(2)
        self.tree.insert((0x01020304, 5, GREATEST, (-32768, 1), (9, 0, 255)))
        data = [1, 1] + [1, 2, 3, 4] + [0, 0, 0, 5] + [255] * 4 + [0, 0, 128, 1] + [3] + [9, 0, 255]
        self.check_pages({1: data + [0] * (256 - len(data))})

    def test_an_entry_without_payload_written_out(self):
        self.begin(1)
        self.tree.insert((7, 256, 0, (32767,), ()))
        data = [1, 1] + [0, 0, 0, 7] + [0, 0, 1, 0] + [0] * 4 + [255, 255] + [0]
        self.check_pages({1: data + [0] * (256 - len(data))})

    def test_entries_in_order(self):
        first, second, third, fourth = small(5), small(5, 9), small(7, 0, 12), small(GREATEST, GREATEST, 40)
        self.begin(1)
        self.tree.insert(third)
        self.check_pages({1: leaf_of(third)})
        self.tree.insert(first)
        self.check_pages({1: leaf_of(first, third)})
        self.tree.insert(fourth)
        self.tree.insert(second)
        self.check_pages({1: leaf_of(first, second, third, fourth)})
        self.check_new_pages(2)

    def test_what_stood_behind_the_entries_becomes_0(self):
        self.begin(1)
        self.fill([small(1), small(2, 1, 40), small(3)])
        self.tree.delete(2, 1)
        self.check_pages({1: leaf_of(small(1), small(3))})
        self.tree.delete(1, 1)
        self.tree.delete(3, 1)
        self.check_pages({1: leaf_of()})
        self.assertEqual(leaf_of(), [1] + [0] * 255)

    def test_replacing_changes_the_end_alone(self):
        self.begin(1)
        self.fill([small(1), small(2, 1, 40), small(3)])
        key, begin, _, point, payload = small(2, 1, 40)
        self.tree.replace(2, 1, 0x01020304)
        self.check_pages({1: leaf_of(small(1), (key, begin, 0x01020304, point, payload), small(3))})

    def test_arguments_stay_as_they_are(self):
        self.begin(1)
        entry = small(3, 4, 5)
        self.tree.insert(entry)
        self.assertEqual(entry, (3, 4, 0, (3,), (7,) * 5))


class SplitLeafTest(PagesTest):
    def test_the_root_stays_and_the_second_part_gets_its_page_first(self):
        self.fill([big(1), big(2), big(3)])
        self.check_pages({1: leaf_of(big(1), big(2), big(3))})
        self.check_new_pages(2)
        self.tree.insert(big(4))
        # The first two have exactly half of the bytes.
        self.check_pages({
            1: inner_of((1, 1, 3), (3, 1, 2)),
            2: leaf_of(big(3), big(4)),
            3: leaf_of(big(1), big(2)),
        })
        self.check_new_pages(4)
        self.assertEqual(self.tree.pages(), [1, 3, 2])

    def test_a_leaf_that_is_not_the_root(self):
        self.fill([big(1), big(2), big(3), big(4), big(5), big(6)])
        # The third part is the second part of page 2.
        self.check_pages({
            1: inner_of((1, 1, 3), (3, 1, 2), (5, 1, 4)),
            2: leaf_of(big(3), big(4)),
            3: leaf_of(big(1), big(2)),
            4: leaf_of(big(5), big(6)),
        })
        self.fill([big(0), big(0, 7)])
        self.check_pages({
            1: inner_of((1, 1, 3), (1, 1, 5), (3, 1, 2), (5, 1, 4)),
            3: leaf_of(big(0), big(0, 7)),
            5: leaf_of(big(1), big(2)),
        })
        self.check_new_pages(6)

    def test_free_pages_are_taken_first(self):
        self.begin(8, 9)
        self.pager.release(4)
        self.pager.release(6)
        self.pager.release(5)
        self.fill([big(k) for k in range(1, 9)])
        self.check_pages({
            1: inner_of((1, 1, 6), (3, 1, 5), (5, 1, 4), (7, 1, 9)),
            6: leaf_of(big(1), big(2)),
            5: leaf_of(big(3), big(4)),
            4: leaf_of(big(5), big(6)),
            9: leaf_of(big(7), big(8)),
        })

    def test_exactly_256_bytes_and_one_more(self):
        for last, splits in ((14, False), (15, True)):
            with self.subTest(last=last):
                self.begin(1)
                entries = [small(k) for k in range(15)] + [small(15, 1, last)]
                self.fill(entries)
                if splits:
                    # The bytes are 255: eight entries have 120 of them, nine 135.
                    self.check_pages({
                        1: inner_of((0, 1, 3), (8, 1, 2)),
                        2: leaf_of(*entries[8:]),
                        3: leaf_of(*entries[:8]),
                    })
                else:
                    self.check_pages({1: leaf_of(*entries)})
                    self.assertNotEqual(self.pager.read(1)[255], 0)
                    self.check_new_pages(2)

    def test_exactly_256_bytes_and_one_more_in_a_leaf_that_is_not_the_root(self):
        for last, splits in ((14, False), (15, True)):
            with self.subTest(last=last):
                self.begin(1, 4)
                entries = [small(k) for k in range(15)]
                self.write({1: inner_of((0, 0, 2), (100, 0, 3)), 2: leaf_of(*entries), 3: leaf_of(small(100))})
                entries.append(small(15, 1, last))
                self.tree.insert(entries[15])
                if splits:
                    self.check_pages({
                        1: inner_of((0, 0, 2), (8, 1, 4), (100, 0, 3)),
                        2: leaf_of(*entries[:8]),
                        4: leaf_of(*entries[8:]),
                    })
                else:
                    self.check_pages({1: inner_of((0, 0, 2), (100, 0, 3)), 2: leaf_of(*entries)})

    def test_the_first_part_has_as_much_as_fits_in_half(self):
        # Bytes of the entries in order, and how many of them the first part has.
        cases = (
            ([55, 40, 40, 55, 55, 15], 2),  # 260: 95, 135
            ([55, 40, 35, 55, 55, 20], 3),  # 260: 130 is exactly half
            ([55, 40, 36, 55, 55, 19], 2),  # 260: 131 is more
            ([55, 40, 35, 55, 55, 19], 2),  # 259: 130 is more than half
            ([55, 40, 35, 55, 55, 21], 3),  # 261: 130 is less than half
            ([15, 15, 15, 15, 15, 15, 55, 55, 55], 6),  # 255: 90, 145
            ([55, 55, 55, 15, 15, 15, 15, 15, 15], 2),  # 255: 110, 165
        )
        for sizes, many in cases:
            for last in range(len(sizes)):
                with self.subTest(sizes=sizes, last=last):
                    self.begin(1)
                    entries = [small(k, 1, size - 15) for k, size in enumerate(sizes)]
                    self.fill(entries[:last] + entries[last + 1 :])
                    self.check_new_pages(2)
                    self.tree.insert(entries[last])
                    self.check_pages({
                        1: inner_of((0, 1, 3), (many, 1, 2)),
                        2: leaf_of(*entries[many:]),
                        3: leaf_of(*entries[:many]),
                    })

    def test_the_pair_of_the_second_part_has_the_begin_of_its_first_item(self):
        self.fill([big(5, 8), big(5, 2), big(5, 6), big(5, 4)])
        self.check_pages({
            1: inner_of((5, 2, 3), (5, 6, 2)),
            2: leaf_of(big(5, 6), big(5, 8)),
            3: leaf_of(big(5, 2), big(5, 4)),
        })


class WhereAnEntryBelongsTest(PagesTest):
    def setUp(self):
        self.begin(1, 5)
        # The pair of the first child is greater than all others.
        self.write({
            1: inner_of((GREATEST, GREATEST, 2), (10, 5, 3), (20, 0, 4)),
            2: leaf_of(small(5)),
            3: leaf_of(small(15)),
            4: leaf_of(small(25)),
        })

    def test_each_place(self):
        cases = (
            ((0, 0), 2),
            ((9, GREATEST), 2),
            ((10, 4), 2),
            ((10, 5), 3),
            ((10, 6), 3),
            ((11, 0), 3),
            ((19, GREATEST), 3),
            ((20, 0), 4),
            ((20, 1), 4),
            ((GREATEST, GREATEST), 4),
        )
        for (key, begin), page in cases:
            with self.subTest(key=key, begin=begin):
                self.setUp()
                self.tree.insert(small(key, begin))
                there = {2: small(5), 3: small(15), 4: small(25)}
                for number, other in there.items():
                    expected = sorted([other, small(key, begin)]) if number == page else [other]
                    self.assertEqual(self.pager.read(number), leaf_of(*expected))
                self.tree.replace(key, begin, 77)
                self.assertEqual(len(self.tree.entries(key, key)), 1)
                self.assertEqual(self.tree.entries(key, key)[0][2], 77)
                self.tree.delete(key, begin)
                self.check_pages({number: leaf_of(other) for number, other in there.items()})
                self.assertEqual(self.tree.entries(key, key), [])

    def test_entries_of_one_key_on_both_sides_of_a_pair(self):
        self.fill([small(10, begin) for begin in range(10)])
        self.check_pages({
            2: leaf_of(small(5), *[small(10, begin) for begin in range(5)]),
            3: leaf_of(*[small(10, begin) for begin in range(5, 10)], small(15)),
        })
        self.assertEqual(self.tree.entries(10, 10), [small(10, begin) for begin in range(10)])

    def test_the_new_child_stands_behind_the_first_one_whose_pair_is_greater(self):
        entries = [small(k) for k in range(0, 4)] + [small(5)] + [small(k, 1, 30) for k in (6, 7, 8, 9)]
        self.fill(entries[:4] + entries[5:])
        # The bytes are 255: the first six entries have 120 of them.
        self.check_pages({
            1: inner_of((GREATEST, GREATEST, 2), (7, 1, 5), (10, 5, 3), (20, 0, 4)),
            2: leaf_of(*entries[:6]),
            5: leaf_of(*entries[6:]),
        })

    def test_the_pair_of_a_child_is_not_changed_later(self):
        self.tree.delete(15, 1)
        self.tree.insert(small(16))
        self.check_pages({1: inner_of((GREATEST, GREATEST, 2), (20, 0, 4))})
        self.check_pages({2: leaf_of(small(5), small(16))})
        self.tree.insert(small(21, 3))
        self.tree.delete(25, 1)
        self.check_pages({1: inner_of((GREATEST, GREATEST, 2), (20, 0, 4)), 4: leaf_of(small(21, 3))})
        self.tree.insert(small(20, 0))
        self.tree.delete(21, 3)
        self.check_pages({1: inner_of((GREATEST, GREATEST, 2), (20, 0, 4)), 4: leaf_of(small(20, 0))})


class SplitInnerTest(PagesTest):
    def children(self, keys, first_page):
        return [(key, 1, first_page + k) for k, key in enumerate(keys)]

    def leaves(self, children):
        """Return leaves with three entries each, so that one more splits them."""
        return {page: leaf_of(*[big(key + k) for k in range(3)]) for key, _, page in children}

    def test_20_children_stay(self):
        children = self.children(range(0, 190, 10), 10)
        self.begin(8, 50)
        self.write({1: inner_of(*children), **self.leaves(children)})
        self.tree.insert(big(183))
        self.check_pages({
            1: inner_of(*children, (182, 1, 50)),
            28: leaf_of(big(180), big(181)),
            50: leaf_of(big(182), big(183)),
        })
        self.assertEqual(self.pager.read(1)[1], 20)
        self.check_new_pages(51)

    def test_a_root_with_21_children(self):
        children = self.children(range(0, 200, 10), 10)
        self.begin(8, 50)
        self.write({1: inner_of(*children), **self.leaves(children)})
        self.tree.insert(big(193))
        # 10 children have 120 of the 252 bytes, 11 would have 132.
        self.check_pages({
            1: inner_of((0, 1, 52), (100, 1, 51)),
            29: leaf_of(big(190), big(191)),
            50: leaf_of(big(192), big(193)),
            51: inner_of(*children[10:], (192, 1, 50)),
            52: inner_of(*children[:10]),
        })
        self.check_new_pages(53)
        self.assertEqual(self.tree.pages(), [1, 52] + list(range(10, 20)) + [51] + list(range(20, 30)) + [50])

    def test_a_new_child_in_the_first_part(self):
        children = self.children(range(0, 200, 10), 10)
        self.begin(8, 50)
        self.write({1: inner_of(*children), **self.leaves(children)})
        self.tree.insert(big(33))
        self.check_pages({
            1: inner_of((0, 1, 52), (90, 1, 51)),
            13: leaf_of(big(30), big(31)),
            50: leaf_of(big(32), big(33)),
            51: inner_of(*children[9:]),
            52: inner_of(*children[:4], (32, 1, 50), *children[4:9]),
        })

    def test_a_root_keeps_the_pair_of_its_first_child(self):
        children = [(GREATEST, 7, 10)] + self.children(range(10, 200, 10), 11)
        self.begin(8, 50)
        self.write({1: inner_of(*children), **self.leaves([(0, 1, 10)] + children[1:])})
        self.tree.insert(big(193))
        self.check_pages({
            1: inner_of((GREATEST, 7, 52), (100, 1, 51)),
            51: inner_of(*children[10:], (192, 1, 50)),
            52: inner_of(*children[:10]),
        })

    def test_an_inner_page_that_is_not_the_root(self):
        children = self.children(range(100, 300, 10), 10)
        self.begin(8, 50)
        self.write({
            1: inner_of((0, 0, 2), (100, 0, 3), (400, 0, 4)),
            2: inner_of((0, 0, 5)),
            3: inner_of(*children),
            4: inner_of((400, 0, 6)),
            5: leaf_of(big(0)),
            6: leaf_of(big(400)),
            **self.leaves(children),
        })
        self.tree.insert(big(105))
        # The pair of the second part is that of its first child, which keeps it.
        self.check_pages({
            1: inner_of((0, 0, 2), (100, 0, 3), (190, 1, 51), (400, 0, 4)),
            3: inner_of(children[0], (102, 1, 50), *children[1:9]),
            10: leaf_of(big(100), big(101)),
            50: leaf_of(big(102), big(105)),
            51: inner_of(*children[9:]),
            2: inner_of((0, 0, 5)),
            4: inner_of((400, 0, 6)),
        })
        self.check_new_pages(52)
        self.assertEqual(self.commit(), [0, 1, 3, 10, 50, 51])

    def test_splits_up_to_the_root(self):
        upper = [(1000 * k, 0, 100 + k) for k in range(20)]
        children = self.children(range(5000, 5200, 10), 10)
        others = {100 + k: inner_of((1000 * k, 0, 200 + k)) for k in range(20) if k != 5}
        leaves = {200 + k: leaf_of(big(1000 * k)) for k in range(20) if k != 5}
        self.begin(8, 500)
        self.write({1: inner_of(*upper), 105: inner_of(*children), **others, **leaves, **self.leaves(children)})
        self.tree.insert(big(5193))
        # New pages: for the leaf, for the inner page, and two for the root.
        self.check_pages({
            1: inner_of((0, 0, 503), (9000, 0, 502)),
            29: leaf_of(big(5190), big(5191)),
            500: leaf_of(big(5192), big(5193)),
            105: inner_of(*children[:10]),
            501: inner_of(*children[10:], (5192, 1, 500)),
            502: inner_of(*upper[9:]),
            503: inner_of(*upper[:6], (5100, 1, 501), *upper[6:9]),
        })
        self.check_new_pages(504)


class DeleteTest(PagesTest):
    def test_a_leaf_that_is_left_without_entries(self):
        self.begin(1, 5)
        self.write({
            1: inner_of((1, 1, 2), (10, 1, 3), (20, 1, 4)),
            2: leaf_of(small(5)),
            3: leaf_of(small(15), small(16)),
            4: leaf_of(small(25)),
        })
        self.tree.delete(15, 1)
        self.check_pages({1: inner_of((1, 1, 2), (10, 1, 3), (20, 1, 4)), 3: leaf_of(small(16))})
        self.check_free()
        self.tree.delete(16, 1)
        self.check_pages({1: inner_of((1, 1, 2), (20, 1, 4)), 2: leaf_of(small(5)), 4: leaf_of(small(25))})
        self.check_free(3)
        self.tree.delete(5, 1)
        # The root takes over page 4, which is released behind page 2.
        self.check_pages({1: leaf_of(small(25))})
        self.check_free(4, 2, 3)
        self.tree.delete(25, 1)
        self.check_pages({1: leaf_of()})
        self.check_free(4, 2, 3)
        self.check_new_pages(5)

    def test_the_first_child(self):
        self.begin(1, 5)
        self.write({
            1: inner_of((1, 1, 2), (10, 1, 3), (20, 1, 4)),
            2: leaf_of(small(5)),
            3: leaf_of(small(15)),
            4: leaf_of(small(25)),
        })
        self.tree.delete(5, 1)
        self.check_pages({1: inner_of((10, 1, 3), (20, 1, 4))})
        # Page 3 is the first child now, so its pair is not used.
        self.tree.insert(small(2))
        self.check_pages({1: inner_of((10, 1, 3), (20, 1, 4)), 3: leaf_of(small(2), small(15))})
        self.check_free(2)

    def test_pages_without_items_from_the_leaf_upwards(self):
        self.begin(1, 20)
        self.write({
            1: inner_of((0, 0, 2), (50, 0, 3), (90, 0, 4)),
            2: inner_of((0, 0, 5)),
            3: inner_of((50, 0, 6)),
            4: inner_of((90, 0, 7)),
            5: leaf_of(small(5)),
            6: inner_of((50, 0, 8)),
            7: leaf_of(small(95)),
            8: leaf_of(small(55)),
        })
        self.tree.delete(55, 1)
        self.check_pages({1: inner_of((0, 0, 2), (90, 0, 4)), 2: inner_of((0, 0, 5)), 4: inner_of((90, 0, 7))})
        self.check_free(3, 6, 8)
        self.assertEqual(self.commit(), [0, 1, 3, 6, 8])

    def test_a_root_takes_over_its_only_child_several_times(self):
        self.begin(1, 20)
        self.write({
            1: inner_of((0, 0, 2), (50, 0, 3)),
            2: inner_of((0, 0, 5)),
            3: inner_of((50, 0, 6)),
            5: leaf_of(small(5)),
            6: inner_of((50, 9, 8)),
            8: inner_of((50, 7, 9), (60, 7, 10)),
            9: leaf_of(small(55)),
            10: leaf_of(small(65), small(66)),
        })
        self.tree.delete(5, 1)
        # Released: the leaf, its parent, and then the pages that are taken over.
        self.check_pages({1: inner_of((50, 7, 9), (60, 7, 10)), 9: leaf_of(small(55))})
        self.check_free(8, 6, 3, 2, 5)
        self.tree.delete(55, 1)
        self.check_pages({1: leaf_of(small(65), small(66))})
        self.check_free(10, 9, 8, 6, 3, 2, 5)
        self.assertEqual(self.tree.pages(), [1])

    def test_a_page_that_is_not_the_root_keeps_its_only_child(self):
        self.begin(1, 20)
        self.write({
            1: inner_of((0, 0, 2), (50, 0, 3)),
            2: inner_of((0, 0, 5), (8, 0, 6)),
            3: inner_of((50, 0, 7)),
            5: leaf_of(small(5)),
            6: leaf_of(small(9)),
            7: leaf_of(small(55)),
        })
        self.tree.delete(9, 1)
        self.check_pages({1: inner_of((0, 0, 2), (50, 0, 3)), 2: inner_of((0, 0, 5)), 3: inner_of((50, 0, 7))})
        self.check_free(6)

    def test_an_inner_root_without_children(self):
        self.begin(1, 20)
        self.write({1: inner_of((0, 0, 2)), 2: inner_of((0, 0, 3)), 3: leaf_of(small(5))})
        self.tree.delete(5, 1)
        self.check_pages({1: leaf_of()})
        self.check_free(2, 3)
        self.tree.insert(small(5))
        self.check_pages({1: leaf_of(small(5))})

    def test_the_root_takes_over_an_inner_page_of_20_children(self):
        children = [(100 + k, 0, 20 + k) for k in range(20)]
        self.begin(1, 50)
        self.write({
            1: inner_of((0, 0, 2), (100, 0, 3)),
            2: leaf_of(small(5)),
            3: inner_of(*children),
            **{page: leaf_of(small(key)) for key, _, page in children},
        })
        self.tree.delete(5, 1)
        self.check_pages({1: inner_of(*children)})
        self.check_free(3, 2)

    def test_the_page_that_was_released_last_is_the_next_new_one(self):
        self.fill([big(k) for k in range(1, 7)])
        self.check_pages({1: inner_of((1, 1, 3), (3, 1, 2), (5, 1, 4))})
        for key in (3, 4, 1, 2):
            self.tree.delete(key, 1)
        # Page 2 was released, then page 3, then page 4 that the root took over.
        self.check_pages({1: leaf_of(big(5), big(6))})
        self.check_free(4, 3, 2)
        self.fill([big(7), big(8)])
        self.check_pages({
            1: inner_of((5, 1, 3), (7, 1, 4)),
            4: leaf_of(big(7), big(8)),
            3: leaf_of(big(5), big(6)),
        })
        self.check_free(2)


class DirtyPagesTest(PagesTest):
    """Which pages are written: no other ones than those that a call changes."""

    def test_a_leaf_alone(self):
        self.fill([big(k) for k in range(1, 6)])
        self.assertEqual(self.commit(), [0, 1, 2, 3])
        self.tree.insert(big(0))
        self.assertEqual(self.commit(), [3])
        self.tree.replace(4, 1, 9)
        self.assertEqual(self.commit(), [2])
        self.tree.delete(4, 1)
        self.assertEqual(self.commit(), [2])

    def test_reading_writes_nothing(self):
        self.fill([big(k) for k in range(1, 50)])
        self.commit()
        self.tree.entries(0, GREATEST)
        self.tree.entries(5, 2)
        self.tree.pages()
        self.assertEqual(self.commit(), [])

    def test_a_split_and_a_page_that_is_released(self):
        self.fill([big(k) for k in range(1, 6)])
        self.commit()
        self.tree.insert(big(6))
        self.assertEqual(self.commit(), [0, 1, 2, 4])
        self.tree.delete(1, 1)
        self.assertEqual(self.commit(), [3])
        self.tree.delete(2, 1)
        self.assertEqual(self.commit(), [0, 1, 3])

    def test_a_tree_takes_no_steps(self):
        self.pager.commit()
        self.device.limit(0)
        before = self.device.steps()
        self.fill([big(k) for k in range(1, 60)])
        for k in range(1, 60):
            self.tree.replace(k, 1, 5)
            self.tree.delete(k, 1)
        self.assertEqual(self.device.steps(), before)

    def test_pages_that_are_not_of_the_tree_stay(self):
        self.begin(8, 60)
        for number in range(2, 60):
            self.pager.write(number, filled(number))
        self.fill([big(k) for k in range(1, 60)])
        for k in range(1, 60):
            self.tree.delete(k, 1)
        for number in range(2, 60):
            self.assertEqual(self.pager.read(number), filled(number))
        self.assertEqual(self.pager.read(GREATEST), ZEROS)


if __name__ == "__main__":
    unittest.main()
