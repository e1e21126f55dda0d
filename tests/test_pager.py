"""Tests of nearvault.pager: contents of pages, the head, and free pages."""

import random
import unittest

from nearvault.device import Device
from nearvault.pager import Pager
from support import ZEROS, filled, head_of, page_of

GREATEST = 2**32 - 1
UPWARDS = list(range(256))
DOWNWARDS = UPWARDS[::-1]


def fields(pager):
    return [pager.field(k) for k in range(8)]


class PagerTest(unittest.TestCase):
    def setUp(self):
        self.device = Device()
        self.pager = Pager(self.device)

    def save(self, how):
        """Make the newest contents last in one of several ways."""
        self.pager.commit()
        if how in ("checkpoint", "opening behind a checkpoint"):
            self.pager.checkpoint()
        if how in ("opening", "opening behind a checkpoint"):
            self.pager = Pager(self.device)

    def check_pages(self, expected):
        for number, content in expected.items():
            self.assertEqual(self.pager.read(number), content, number)


WAYS = ("commit", "checkpoint", "opening", "opening behind a checkpoint")


class ReadAndWriteTest(PagerTest):
    def test_pages_that_were_never_written(self):
        for number in (1, 2, 77, 65536, GREATEST):
            self.assertEqual(self.pager.read(number), ZEROS)
        self.assertEqual(self.pager.read(0), head_of(1, 0))

    def test_a_page_written_once(self):
        for number in (1, 2, 77, GREATEST):
            self.assertIsNone(self.pager.write(number, UPWARDS))
            self.assertEqual(self.pager.read(number), UPWARDS)
        self.assertEqual(self.pager.read(3), ZEROS)

    def test_a_page_written_twice(self):
        self.pager.write(5, UPWARDS)
        self.pager.write(6, filled(1))
        self.pager.write(5, DOWNWARDS)
        self.check_pages({5: DOWNWARDS, 6: filled(1), 7: ZEROS})
        self.pager.write(5, ZEROS)
        self.check_pages({5: ZEROS, 6: filled(1)})

    def test_the_head_may_be_written_and_read_as_a_page(self):
        content = page_of(1, 2, 0, 9, 1, 2, 44, 0)[:252] + [1, 2, 3, 4]
        self.pager.write(0, content)
        self.assertEqual(self.pager.read(0), content)
        self.assertEqual(fields(self.pager), [1, 2, 0, 9, 1, 2, 44, 0])
        self.assertEqual(self.pager.allocate(), 44)
        self.assertEqual(self.pager.read(0), page_of(1, 2, 0, 9, 1, 2, 45, 0)[:252] + [1, 2, 3, 4])

    def test_saved_in_each_way(self):
        for how in WAYS:
            with self.subTest(how=how):
                self.setUp()
                self.pager.write(3, UPWARDS)
                self.pager.write(GREATEST, filled(7))
                self.save(how)
                self.check_pages({3: UPWARDS, GREATEST: filled(7), 4: ZEROS, 0: head_of(1, 0)})

    def test_written_again_behind_each_way_of_saving(self):
        for how in WAYS:
            for later in WAYS:
                with self.subTest(how=how, later=later):
                    self.setUp()
                    self.pager.write(3, UPWARDS)
                    self.pager.write(4, filled(4))
                    self.save(how)
                    self.pager.write(3, DOWNWARDS)
                    self.pager.write(5, filled(5))
                    self.check_pages({3: DOWNWARDS, 4: filled(4), 5: filled(5)})
                    self.save(later)
                    self.check_pages({3: DOWNWARDS, 4: filled(4), 5: filled(5), 6: ZEROS})

    def test_what_was_not_committed_is_not_there_behind_an_opening(self):
        self.pager.write(3, UPWARDS)
        self.save("commit")
        self.pager.write(3, DOWNWARDS)
        self.pager.write(4, DOWNWARDS)
        self.pager = Pager(self.device)
        self.check_pages({3: UPWARDS, 4: ZEROS})

    def test_pages_that_stand_on_the_device_already(self):
        self.device.write_page(2, UPWARDS)
        self.device.write_page(0, page_of(1, 3, 2, 8, 1, 2, 5, 4))
        self.pager = Pager(self.device)
        self.check_pages({2: UPWARDS, 3: ZEROS, 0: page_of(1, 3, 2, 8, 1, 2, 5, 4)})

    def test_calls_without_an_answer(self):
        self.pager.allocate()
        for found in (
            self.pager.write(2, UPWARDS),
            self.pager.release(1),
            self.pager.set_field(3, 1),
            self.pager.commit(),
            self.pager.commit(),
            self.pager.checkpoint(),
            self.pager.rollback(),
        ):
            self.assertIsNone(found)

    def test_two_pagers_of_two_devices_have_nothing_in_common(self):
        self.pager.write(3, UPWARDS)
        self.pager.commit()
        other = Pager(Device())
        self.assertEqual(other.read(3), ZEROS)
        self.assertEqual(other.allocate(), 1)
        self.assertEqual(self.pager.field(6), 1)


class CopiesTest(PagerTest):
    def test_a_list_that_is_handed_in(self):
        content = filled(1)
        self.pager.write(3, content)
        content[0] = 99
        self.assertEqual(self.pager.read(3), filled(1))
        self.save("commit")
        content[1] = 99
        self.assertEqual(self.pager.read(3), filled(1))
        self.save("checkpoint")
        del content[2:]
        self.assertEqual(self.pager.read(3), filled(1))
        self.assertEqual(content, [99, 99])

    def test_a_list_that_is_handed_in_stays_as_it_is(self):
        content = list(UPWARDS)
        self.pager.write(0, content)
        self.pager.set_field(1, 5)
        self.pager.write(3, content)
        self.pager.release(3)
        self.save("opening")
        self.assertEqual(content, UPWARDS)

    def test_lists_that_are_handed_out(self):
        self.pager.read(3)[0] = 99
        self.pager.read(0)[0] = 99
        self.check_pages({3: ZEROS, 0: head_of(1, 0)})
        self.pager.write(3, filled(1))
        for how in ("nothing",) + WAYS:
            with self.subTest(how=how):
                self.pager.read(3)[5] = 99
                self.pager.read(0).append(99)
                self.check_pages({3: filled(1), 0: head_of(1, 0)})
                if how != "nothing":
                    self.save(how)
                self.pager.read(3)[5] = 99
                self.pager.read(0)[5] = 99
                self.check_pages({3: filled(1), 0: head_of(1, 0)})

    def test_a_list_from_before_a_change(self):
        self.pager.write(3, filled(1))
        before = self.pager.read(3)
        head = self.pager.read(0)
        self.pager.write(3, filled(2))
        self.pager.set_field(6, 9)
        self.assertEqual(before, filled(1))
        self.assertEqual(head, head_of(1, 0))

    def test_the_device_does_not_share_lists(self):
        self.pager.write(3, filled(1))
        self.save("checkpoint")
        self.device.page(3)[0] = 99
        self.assertEqual(self.pager.read(3), filled(1))
        self.pager.read(3)[0] = 99
        self.assertEqual(self.device.page(3), filled(1))


class HeadTest(PagerTest):
    def test_an_empty_device(self):
        self.assertEqual(fields(self.pager), [0, 0, 0, 0, 0, 0, 1, 0])
        self.assertEqual(self.pager.read(0), head_of(1, 0))

    def test_each_number_of_the_head(self):
        for k in range(8):
            for number in (0, 1, 255, 256, 0x01020304, 2**31, GREATEST):
                with self.subTest(k=k, number=number):
                    self.setUp()
                    expected = [11, 12, 13, 14, 15, 16, 17, 18]
                    self.pager.write(0, page_of(*expected))
                    self.assertIsNone(self.pager.set_field(k, number))
                    expected[k] = number
                    self.assertEqual(fields(self.pager), expected)
                    self.assertEqual(self.pager.read(0), page_of(*expected))

    def test_the_rest_of_the_head_stays(self):
        self.pager.write(0, UPWARDS)
        self.assertEqual(self.pager.field(0), 0x00010203)
        self.assertEqual(self.pager.field(7), 0x1C1D1E1F)
        self.pager.set_field(2, 0)
        self.assertEqual(self.pager.read(0), UPWARDS[:8] + [0, 0, 0, 0] + UPWARDS[12:])

    def test_saved_in_each_way(self):
        for how in WAYS:
            with self.subTest(how=how):
                self.setUp()
                expected = [1, 8, 2, GREATEST, 5, 6, 7, 0]
                for k, number in enumerate(expected):
                    self.pager.set_field(k, number)
                self.save(how)
                self.assertEqual(fields(self.pager), expected)
                self.assertEqual(self.pager.read(0), page_of(*expected))

    def test_no_pages_behind_an_opening(self):
        self.pager.set_field(3, 9)
        self.pager.set_field(6, 0)
        self.assertEqual(self.pager.field(6), 0)
        self.pager.commit()
        self.assertEqual(self.pager.field(6), 0)
        self.pager.checkpoint()
        self.assertEqual(self.pager.field(6), 0)
        self.pager = Pager(self.device)
        self.assertEqual(fields(self.pager), [0, 0, 0, 9, 0, 0, 1, 0])

    def test_no_pages_behind_a_rollback(self):
        self.pager.set_field(6, 0)
        self.pager.set_field(1, 4)
        self.pager.commit()
        self.pager.write(5, UPWARDS)
        self.pager.rollback()
        self.assertEqual(fields(self.pager), [0, 4, 0, 0, 0, 0, 1, 0])

    def test_no_pages_behind_a_rollback_without_dirty_pages(self):
        self.pager.set_field(6, 0)
        self.pager.commit()
        self.pager.rollback()
        self.assertEqual(self.pager.field(6), 1)

    def test_a_number_of_pages_that_is_not_0_stays(self):
        self.pager.set_field(6, 2)
        self.save("opening")
        self.assertEqual(self.pager.field(6), 2)
        self.pager.rollback()
        self.assertEqual(self.pager.field(6), 2)


class AllocateTest(PagerTest):
    def check_head(self, pages, first_free):
        self.assertEqual(self.pager.read(0), head_of(pages, first_free))

    def test_without_free_pages(self):
        self.assertEqual([self.pager.allocate() for _ in range(4)], [1, 2, 3, 4])
        self.check_head(5, 0)

    def test_an_allocated_page_is_filled_with_zeros(self):
        self.pager.write(1, UPWARDS)
        self.pager.write(2, DOWNWARDS)
        self.save("checkpoint")
        self.assertEqual(self.pager.allocate(), 1)
        self.check_pages({1: ZEROS, 2: DOWNWARDS})
        self.assertEqual(self.pager.allocate(), 2)
        self.check_pages({1: ZEROS, 2: ZEROS})

    def test_a_released_page(self):
        for _ in range(3):
            self.pager.allocate()
        self.pager.write(2, filled(255))
        self.pager.release(2)
        self.check_pages({2: ZEROS})
        self.check_head(4, 2)
        self.assertEqual(self.pager.allocate(), 2)
        self.check_pages({2: ZEROS})
        self.check_head(4, 0)
        self.assertEqual(self.pager.allocate(), 4)
        self.check_head(5, 0)

    def test_several_released_pages_come_last_first(self):
        for _ in range(6):
            self.pager.write(self.pager.allocate(), filled(9))
        for number in (3, 6, 1, 4):
            self.pager.release(number)
        self.check_pages({3: page_of(0), 6: page_of(3), 1: page_of(6), 4: page_of(1), 2: filled(9), 5: filled(9)})
        self.check_head(7, 4)
        for number, first_free in ((4, 1), (1, 6), (6, 3), (3, 0)):
            self.assertEqual(self.pager.allocate(), number)
            self.assertEqual(self.pager.read(number), ZEROS)
            self.check_head(7, first_free)
        self.assertEqual(self.pager.allocate(), 7)

    def test_releasing_between_allocating(self):
        for _ in range(3):
            self.pager.allocate()
        self.pager.release(1)
        self.pager.release(3)
        self.assertEqual(self.pager.allocate(), 3)
        self.pager.release(2)
        self.assertEqual([self.pager.allocate() for _ in range(3)], [2, 1, 4])

    def test_a_page_with_a_great_number(self):
        self.pager.release(GREATEST)
        self.pager.release(0x01020304)
        self.check_pages({GREATEST: ZEROS, 0x01020304: filled(255)[:4] + [0] * 252})
        self.assertEqual([self.pager.allocate() for _ in range(3)], [0x01020304, GREATEST, 1])

    def test_free_pages_in_each_way_of_saving(self):
        for how in WAYS:
            with self.subTest(how=how):
                self.setUp()
                for _ in range(4):
                    self.pager.write(self.pager.allocate(), filled(9))
                self.pager.release(2)
                self.pager.release(4)
                self.save(how)
                self.check_head(5, 4)
                self.assertEqual([self.pager.allocate() for _ in range(3)], [4, 2, 5])
                self.check_pages({1: filled(9), 2: ZEROS, 3: filled(9), 4: ZEROS, 5: ZEROS})

    def test_allocating_and_releasing_rolled_back(self):
        for _ in range(3):
            self.pager.write(self.pager.allocate(), filled(9))
        self.pager.release(2)
        self.pager.commit()
        self.assertEqual([self.pager.allocate() for _ in range(2)], [2, 4])
        self.pager.release(1)
        self.pager.rollback()
        self.check_head(4, 2)
        self.check_pages({1: filled(9), 2: ZEROS, 3: filled(9)})
        self.assertEqual([self.pager.allocate() for _ in range(2)], [2, 4])


class RollbackTest(PagerTest):
    def test_dirty_pages(self):
        self.pager.write(3, UPWARDS)
        self.pager.commit()
        self.pager.write(3, DOWNWARDS)
        self.pager.write(3, filled(1))
        self.pager.write(4, filled(2))
        self.pager.set_field(5, 6)
        self.pager.rollback()
        self.check_pages({3: UPWARDS, 4: ZEROS, 0: head_of(1, 0)})

    def test_behind_each_way_of_saving(self):
        for how in WAYS:
            with self.subTest(how=how):
                self.setUp()
                self.pager.write(3, UPWARDS)
                self.pager.set_field(5, 6)
                self.save(how)
                self.pager.write(3, DOWNWARDS)
                self.pager.write(4, filled(2))
                self.pager.set_field(5, 7)
                self.pager.rollback()
                self.check_pages({3: UPWARDS, 4: ZEROS, 0: page_of(0, 0, 0, 0, 0, 6, 1, 0)})

    def test_without_dirty_pages(self):
        for how in WAYS:
            with self.subTest(how=how):
                self.setUp()
                self.pager.write(3, UPWARDS)
                self.save(how)
                self.pager.rollback()
                self.pager.rollback()
                self.check_pages({3: UPWARDS, 4: ZEROS, 0: head_of(1, 0)})

    def test_the_content_of_the_last_commit_and_not_of_an_earlier_one(self):
        self.pager.write(3, filled(1))
        self.save("checkpoint")
        self.pager.write(3, filled(2))
        self.pager.commit()
        self.pager.write(3, filled(3))
        self.pager.rollback()
        self.assertEqual(self.pager.read(3), filled(2))

    def test_on_an_empty_device(self):
        self.pager.write(3, UPWARDS)
        self.pager.set_field(6, 5)
        self.pager.rollback()
        self.check_pages({3: ZEROS, 0: head_of(1, 0)})

    def test_a_page_that_is_rolled_back_is_not_committed_later(self):
        self.pager.write(3, filled(1))
        self.pager.commit()
        self.pager.write(3, filled(2))
        self.pager.rollback()
        self.pager.write(4, filled(4))
        self.save("opening")
        self.check_pages({3: filled(1), 4: filled(4)})


class ManyCallsTest(unittest.TestCase):
    """Any order of calls, against two dicts of contents."""

    def run_calls(self, seed):
        chance = random.Random(seed)
        device = Device()
        pager = Pager(device)
        committed = {}
        newest = {0: head_of(1, 0)}
        for _ in range(120):
            call = chance.choice(("write", "write", "write", "field", "commit", "checkpoint", "rollback", "open"))
            if call == "write":
                number = chance.choice((1, 2, 3, 4, GREATEST))
                newest[number] = [chance.randrange(256) for _ in range(256)]
                pager.write(number, newest[number])
            elif call == "field":
                k, number = chance.randrange(6), chance.randrange(GREATEST)
                newest[0] = newest[0][: 4 * k] + list(number.to_bytes(4, "big")) + newest[0][4 * k + 4 :]
                pager.set_field(k, number)
            elif call in ("commit", "checkpoint"):
                pager.commit()
                committed = dict(newest)
                if call == "checkpoint":
                    pager.checkpoint()
            else:
                newest = {0: head_of(1, 0), **committed}
                if call == "rollback":
                    pager.rollback()
                else:
                    pager = Pager(device)
            for number in (0, 1, 2, 3, 4, 5, GREATEST):
                self.assertEqual(pager.read(number), newest.get(number, ZEROS), (seed, call, number))

    def test_many_calls(self):
        for seed in range(40):
            self.run_calls(seed)


if __name__ == "__main__":
    unittest.main()
