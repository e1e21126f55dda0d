"""Tests of nearvault.device: pages, the log, pending steps, power and crashes."""

import itertools
import unittest

from nearvault.device import Device
from nearvault.errors import PowerCut

ZEROS = [0] * 256


def filled(byte):
    return [byte] * 256


def halves(first, second):
    return [first] * 128 + [second] * 128


def perform(device, name):
    """Perform the one step that a name stands for."""
    if name == "write":
        device.write_page(3, filled(5))
    elif name == "append":
        device.append([8])
    else:
        getattr(device, name)()


STEPS = ("write", "sync_pages", "append", "clear", "sync_log")


class DeviceTest(unittest.TestCase):
    def setUp(self):
        self.device = Device()

    def check_counts(self, writes, log_steps, steps):
        self.assertEqual(self.device.pending(), (writes, log_steps))
        self.assertEqual(self.device.steps(), steps)

    def check_cut(self, method, *arguments):
        """Check that a call raises PowerCut and that the device stays as it was."""
        before = (self.device.log(), self.device.page(3), self.device.pending(), self.device.steps())
        with self.assertRaises(PowerCut):
            method(*arguments)
        after = (self.device.log(), self.device.page(3), self.device.pending(), self.device.steps())
        self.assertEqual(after, before)


class PagesTest(DeviceTest):
    def test_empty_device(self):
        self.assertEqual(self.device.log(), [])
        self.check_counts(0, 0, 0)
        self.assertIs(type(self.device.pending()), tuple)

    def test_page_never_written(self):
        for number in (0, 1, 77, 2**32 - 1):
            self.assertEqual(self.device.page(number), ZEROS)
        self.device.write_page(1, filled(9))
        self.assertEqual(self.device.page(0), ZEROS)
        self.assertEqual(self.device.page(2), ZEROS)

    def test_page_written(self):
        content = list(range(256))
        self.assertIsNone(self.device.write_page(4, content))
        self.assertEqual(self.device.page(4), content)
        self.check_counts(1, 0, 1)

    def test_the_lowest_and_the_greatest_page(self):
        self.device.write_page(0, filled(1))
        self.device.write_page(2**32 - 1, filled(2))
        self.device.sync_pages()
        self.assertEqual(self.device.page(0), filled(1))
        self.assertEqual(self.device.page(2**32 - 1), filled(2))

    def test_page_written_twice(self):
        self.device.write_page(4, filled(1))
        self.device.write_page(5, filled(3))
        self.device.write_page(4, filled(2))
        self.assertEqual(self.device.page(4), filled(2))
        self.assertEqual(self.device.page(5), filled(3))
        self.check_counts(3, 0, 3)

    def test_syncing_keeps_the_last_write(self):
        self.device.write_page(4, filled(1))
        self.device.write_page(4, filled(2))
        self.assertIsNone(self.device.sync_pages())
        self.check_counts(0, 0, 3)
        self.assertEqual(self.device.page(4), filled(2))
        self.device.crash([], 0)
        self.assertEqual(self.device.page(4), filled(2))

    def test_a_pending_write_covers_a_synced_one(self):
        self.device.write_page(4, filled(1))
        self.device.sync_pages()
        self.device.write_page(4, filled(2))
        self.assertEqual(self.device.page(4), filled(2))
        self.check_counts(1, 0, 3)
        self.device.write_page(4, ZEROS)
        self.assertEqual(self.device.page(4), ZEROS)

    def test_syncing_without_pending_writes_is_a_step(self):
        self.device.sync_pages()
        self.device.sync_pages()
        self.check_counts(0, 0, 2)

    def test_syncing_the_pages_leaves_the_log_pending(self):
        self.device.append([1, 2])
        self.device.write_page(0, filled(1))
        self.device.sync_pages()
        self.check_counts(0, 2, 4)
        self.device.crash([], 0)
        self.assertEqual(self.device.log(), [])


class LogTest(DeviceTest):
    def test_appending(self):
        self.assertIsNone(self.device.append([1, 0, 255]))
        self.assertEqual(self.device.log(), [1, 0, 255])
        self.check_counts(0, 3, 3)
        self.device.append([1])
        self.assertEqual(self.device.log(), [1, 0, 255, 1])
        self.check_counts(0, 4, 4)

    def test_appending_nothing_is_no_step(self):
        self.device.append([])
        self.check_counts(0, 0, 0)
        self.device.limit(0)
        self.device.append([])
        self.check_counts(0, 0, 0)

    def test_clearing(self):
        self.device.append([1, 2])
        self.assertIsNone(self.device.clear())
        self.assertEqual(self.device.log(), [])
        self.check_counts(0, 3, 3)
        self.device.append([7])
        self.assertEqual(self.device.log(), [7])
        self.check_counts(0, 4, 4)

    def test_clearing_an_empty_log_is_a_step(self):
        self.device.clear()
        self.check_counts(0, 1, 1)
        self.assertEqual(self.device.log(), [])

    def test_syncing(self):
        self.device.append([1, 2])
        self.assertIsNone(self.device.sync_log())
        self.check_counts(0, 0, 3)
        self.assertEqual(self.device.log(), [1, 2])
        self.device.append([3])
        self.assertEqual(self.device.log(), [1, 2, 3])
        self.device.crash([], 0)
        self.assertEqual(self.device.log(), [1, 2])

    def test_syncing_a_clearing(self):
        self.device.append([1, 2])
        self.device.sync_log()
        self.device.clear()
        self.assertEqual(self.device.log(), [])
        self.device.append([5])
        self.device.sync_log()
        self.check_counts(0, 0, 6)
        self.device.crash([], 0)
        self.assertEqual(self.device.log(), [5])

    def test_syncing_without_pending_steps_is_a_step(self):
        self.device.sync_log()
        self.device.sync_log()
        self.check_counts(0, 0, 2)

    def test_syncing_the_log_leaves_the_page_writes_pending(self):
        self.device.write_page(0, filled(1))
        self.device.append([1])
        self.device.sync_log()
        self.check_counts(1, 0, 3)
        self.device.crash([], 0)
        self.assertEqual(self.device.page(0), ZEROS)


class CopiesTest(DeviceTest):
    def test_a_page_that_was_handed_in(self):
        content = filled(1)
        self.device.write_page(0, content)
        content[0] = 99
        self.assertEqual(self.device.page(0), filled(1))
        self.device.sync_pages()
        content[1] = 99
        del content[2:]
        self.assertEqual(self.device.page(0), filled(1))

    def test_a_page_that_was_handed_in_before_a_crash(self):
        content = filled(1)
        self.device.write_page(0, content)
        self.device.write_page(1, content)
        self.device.crash([1, 2], 0)
        content[0] = 99
        self.assertEqual(self.device.page(0), filled(1))
        self.assertEqual(self.device.page(1), halves(1, 0))

    def test_pages_that_are_handed_out(self):
        self.device.page(0)[0] = 99
        self.assertEqual(self.device.page(0), ZEROS)
        self.device.write_page(0, filled(1))
        self.device.page(0)[0] = 99
        self.assertEqual(self.device.page(0), filled(1))
        self.device.sync_pages()
        self.device.page(0)[0] = 99
        self.assertEqual(self.device.page(0), filled(1))
        self.assertEqual(self.device.page(7), ZEROS)

    def test_bytes_that_were_handed_in(self):
        content = [1, 2]
        self.device.append(content)
        content.append(3)
        content[0] = 99
        self.assertEqual(self.device.log(), [1, 2])
        self.device.sync_log()
        content[0] = 98
        self.assertEqual(self.device.log(), [1, 2])

    def test_a_log_that_is_handed_out(self):
        self.device.log().append(99)
        self.assertEqual(self.device.log(), [])
        self.device.append([1, 2])
        self.device.log()[0] = 99
        self.assertEqual(self.device.log(), [1, 2])
        self.device.sync_log()
        self.device.log()[0] = 99
        self.device.log().append(3)
        self.assertEqual(self.device.log(), [1, 2])

    def test_no_argument_is_modified(self):
        content = list(range(256))
        data = [1, 2, 3]
        fates = [2, 1, 0, 1, 2]
        self.device.write_page(0, content)
        self.device.write_page(0, content)
        self.device.append(data)
        self.device.page(0)
        self.device.crash(fates, 2)
        self.device.append(data)
        self.device.clear()
        self.device.sync_pages()
        self.device.sync_log()
        self.assertEqual(content, list(range(256)))
        self.assertEqual(data, [1, 2, 3])
        self.assertEqual(fates, [2, 1, 0, 1, 2])

    def test_devices_have_nothing_in_common(self):
        other = Device()
        self.device.write_page(0, filled(1))
        self.device.sync_pages()
        self.device.append([1])
        self.device.limit(0)
        self.assertEqual(other.page(0), ZEROS)
        self.assertEqual(other.log(), [])
        self.assertEqual(other.pending(), (0, 0))
        self.assertEqual(other.steps(), 0)
        other.append([2])
        self.assertEqual(Device().log(), [])


class PowerTest(DeviceTest):
    def check_every_step_is_cut(self):
        self.check_cut(self.device.write_page, 3, filled(9))
        self.check_cut(self.device.sync_pages)
        self.check_cut(self.device.append, [1])
        self.check_cut(self.device.append, [1, 2])
        self.check_cut(self.device.clear)
        self.check_cut(self.device.sync_log)

    def test_no_limit_at_first(self):
        for _ in range(50):
            for name in STEPS:
                perform(self.device, name)
        self.check_counts(0, 0, 250)

    def test_each_kind_of_step_needs_one_unit_of_power(self):
        for name in STEPS:
            with self.subTest(name=name):
                self.device = Device()
                self.device.limit(1)
                perform(self.device, name)
                self.assertEqual(self.device.steps(), 1)
                self.check_every_step_is_cut()

    def test_each_kind_of_step_is_cut_without_power(self):
        for name in STEPS:
            with self.subTest(name=name):
                self.device = Device()
                self.device.write_page(3, filled(1))
                self.device.append([1, 2])
                self.device.limit(0)
                self.check_cut(perform, self.device, name)
                self.check_counts(1, 2, 3)
                self.assertEqual(self.device.page(3), filled(1))
                self.assertEqual(self.device.log(), [1, 2])
                self.device.crash([], 0)
                self.assertEqual(self.device.page(3), ZEROS)
                self.assertEqual(self.device.log(), [])

    def test_exactly_the_step_that_exceeds_the_limit(self):
        script = list(itertools.chain.from_iterable(itertools.permutations(STEPS)))[:40]
        for allowed in range(len(script) + 1):
            with self.subTest(allowed=allowed):
                self.device = Device()
                self.device.append([6])
                self.device.limit(allowed)
                for name in script[:allowed]:
                    perform(self.device, name)
                self.assertEqual(self.device.steps(), 1 + allowed)
                for name in script[allowed:]:
                    self.check_cut(perform, self.device, name)
                self.check_every_step_is_cut()

    def test_many_steps(self):
        self.device.limit(1000)
        self.device.append([1] * 1000)
        self.assertEqual(self.device.steps(), 1000)
        self.check_every_step_is_cut()

    def test_in_the_middle_of_an_append(self):
        for allowed in range(6):
            with self.subTest(allowed=allowed):
                self.device = Device()
                self.device.append([9])
                self.device.limit(allowed)
                if allowed < 5:
                    with self.assertRaises(PowerCut):
                        self.device.append([1, 2, 3, 4, 5])
                else:
                    self.device.append([1, 2, 3, 4, 5])
                self.assertEqual(self.device.log(), [9, 1, 2, 3, 4, 5][: 1 + allowed])
                self.check_counts(0, 1 + allowed, 1 + allowed)
                if allowed == 5:
                    self.check_every_step_is_cut()

    def test_what_was_done_before_the_cut_is_kept(self):
        self.device.limit(4)
        self.device.write_page(0, filled(1))
        self.device.write_page(3, filled(2))
        with self.assertRaises(PowerCut):
            self.device.append([1, 2, 3])
        self.assertEqual(self.device.page(0), filled(1))
        self.assertEqual(self.device.page(3), filled(2))
        self.assertEqual(self.device.log(), [1, 2])
        self.check_counts(2, 2, 4)

    def test_every_step_after_the_cut(self):
        self.device.limit(2)
        self.device.append([1])
        with self.assertRaises(PowerCut):
            self.device.append([2, 3])
        for _ in range(3):
            self.check_every_step_is_cut()

    def test_ending_the_limit(self):
        self.device.limit(0)
        self.check_every_step_is_cut()
        self.assertIsNone(self.device.limit(None))
        self.device.append([1] * 20)
        self.check_counts(0, 20, 20)

    def test_ending_a_limit_that_is_not_used_up(self):
        self.device.limit(3)
        self.device.append([1, 2])
        self.device.limit(None)
        self.device.append([3, 4, 5])
        self.assertEqual(self.device.log(), [1, 2, 3, 4, 5])

    def test_ending_no_limit(self):
        self.device.limit(None)
        self.device.append([1])
        self.check_counts(0, 1, 1)

    def test_setting_the_limit_anew(self):
        self.device.limit(1)
        self.device.append([1])
        self.check_every_step_is_cut()
        self.device.limit(2)
        self.device.append([2])
        self.device.clear()
        self.check_every_step_is_cut()
        self.device.limit(0)
        self.check_every_step_is_cut()

    def test_a_new_limit_takes_the_place_of_the_old_one(self):
        self.device.limit(10)
        self.device.append([1, 2])
        self.device.limit(1)
        self.device.append([3])
        self.check_every_step_is_cut()
        self.device.limit(1)
        self.device.limit(3)
        self.device.append([4, 5, 6])
        self.check_every_step_is_cut()

    def test_the_limit_counts_further_steps(self):
        self.device.append([1] * 30)
        self.device.limit(2)
        self.device.append([2, 3])
        self.assertEqual(self.device.steps(), 32)
        self.check_every_step_is_cut()

    def test_reading_needs_no_power(self):
        self.device.write_page(0, filled(1))
        self.device.append([1, 2])
        self.device.limit(1)
        for _ in range(5):
            self.assertEqual(self.device.page(0), filled(1))
            self.assertEqual(self.device.page(1), ZEROS)
            self.assertEqual(self.device.log(), [1, 2])
            self.check_counts(1, 2, 3)
        self.device.sync_log()
        self.check_every_step_is_cut()
        self.assertEqual(self.device.page(0), filled(1))
        self.assertEqual(self.device.log(), [1, 2])
        self.check_counts(1, 0, 4)


class PageCrashTest(DeviceTest):
    def test_each_fate(self):
        for fate, expected in ((0, filled(7)), (1, filled(9)), (2, halves(9, 7))):
            with self.subTest(fate=fate):
                self.device = Device()
                self.device.write_page(0, filled(7))
                self.device.sync_pages()
                self.device.write_page(0, filled(9))
                self.assertIsNone(self.device.crash([fate], 0))
                self.assertEqual(self.device.page(0), expected)
                self.check_counts(0, 0, 3)

    def test_each_fate_of_a_page_never_written(self):
        for fate, expected in ((0, ZEROS), (1, filled(9)), (2, halves(9, 0))):
            with self.subTest(fate=fate):
                self.device = Device()
                self.device.write_page(5, filled(9))
                self.device.crash([fate], 0)
                self.assertEqual(self.device.page(5), expected)
                self.assertEqual(self.device.page(4), ZEROS)

    def test_exactly_128_bytes(self):
        old = [255 - k for k in range(256)]
        new = list(range(256))
        self.device.write_page(2, old)
        self.device.sync_pages()
        self.device.write_page(2, new)
        self.device.crash([2], 0)
        self.assertEqual(self.device.page(2), new[:128] + old[128:])

    def test_all_fates_of_three_writes_of_one_page(self):
        fills = (11, 22, 33)
        for fates in itertools.product((0, 1, 2), repeat=3):
            first = [7] + [fill for fill, fate in zip(fills, fates) if fate != 0]
            second = [7] + [fill for fill, fate in zip(fills, fates) if fate == 1]
            with self.subTest(fates=fates):
                self.device = Device()
                self.device.write_page(0, filled(7))
                self.device.sync_pages()
                for fill in fills:
                    self.device.write_page(0, filled(fill))
                self.device.crash(list(fates), 0)
                self.assertEqual(self.device.page(0), halves(first[-1], second[-1]))

    def test_fates_go_by_the_order_of_the_writes(self):
        self.device.write_page(9, filled(1))
        self.device.write_page(2, filled(2))
        self.device.write_page(9, filled(3))
        self.device.write_page(5, filled(4))
        self.device.crash([1, 0, 2, 1], 0)
        self.assertEqual(self.device.page(9), halves(3, 1))
        self.assertEqual(self.device.page(2), ZEROS)
        self.assertEqual(self.device.page(5), filled(4))

    def test_fewer_fates_than_writes(self):
        for many in range(4):
            with self.subTest(many=many):
                self.device = Device()
                for number in range(3):
                    self.device.write_page(number, filled(1 + number))
                self.device.crash([1] * many, 0)
                found = [self.device.page(number)[0] for number in range(3)]
                self.assertEqual(found, [1, 2, 3][:many] + [0] * (3 - many))

    def test_more_fates_than_writes(self):
        fates = [1, 2, 1, 1, 2, 0]
        self.device.write_page(0, filled(1))
        self.device.write_page(1, filled(2))
        self.device.crash(fates, 0)
        self.assertEqual(self.device.page(0), filled(1))
        self.assertEqual(self.device.page(1), halves(2, 0))
        self.assertEqual(fates, [1, 2, 1, 1, 2, 0])
        self.device.write_page(2, filled(3))
        self.device.crash([], 0)
        self.assertEqual(self.device.page(2), ZEROS)

    def test_a_synced_write_takes_no_fate(self):
        self.device.write_page(0, filled(1))
        self.device.sync_pages()
        self.device.write_page(1, filled(2))
        self.device.crash([1], 0)
        self.assertEqual(self.device.page(0), filled(1))
        self.assertEqual(self.device.page(1), filled(2))

    def test_a_lost_write_does_not_come_back(self):
        self.device.write_page(0, filled(1))
        self.device.crash([0], 0)
        self.device.sync_pages()
        self.device.crash([1, 1], 5)
        self.assertEqual(self.device.page(0), ZEROS)

    def test_a_kept_write_is_durable(self):
        self.device.write_page(0, filled(1))
        self.device.write_page(1, filled(2))
        self.device.crash([1, 2], 0)
        self.device.crash([0, 0], 0)
        self.assertEqual(self.device.page(0), filled(1))
        self.assertEqual(self.device.page(1), halves(2, 0))

    def test_crash_after_crash(self):
        self.device.write_page(0, filled(1))
        self.device.crash([1], 0)
        self.device.write_page(0, filled(2))
        self.device.crash([2], 0)
        self.assertEqual(self.device.page(0), halves(2, 1))
        self.device.write_page(0, filled(3))
        self.device.crash([], 0)
        self.assertEqual(self.device.page(0), halves(2, 1))


class LogCrashTest(DeviceTest):
    def check_kept(self, perform_steps, expected):
        """Check the log for each number of kept steps, and with too many of them."""
        numbers = list(range(len(expected))) + [len(expected), len(expected) + 100]
        for kept in numbers:
            with self.subTest(kept=kept):
                self.device = Device()
                self.device.append([1, 2])
                self.device.sync_log()
                perform_steps(self.device)
                many = self.device.pending()[1]
                self.assertEqual(many, len(expected) - 1)
                self.device.crash([1, 1, 1], kept)
                self.assertEqual(self.device.log(), expected[min(kept, many)])
                self.check_counts(0, 0, 3 + many)
                self.device.crash([], 0)
                self.assertEqual(self.device.log(), expected[min(kept, many)])

    def test_appended_bytes(self):
        def appends(device):
            device.append([3, 4])
            device.append([5])

        self.check_kept(appends, [[1, 2], [1, 2, 3], [1, 2, 3, 4], [1, 2, 3, 4, 5]])

    def test_a_clearing_among_the_steps(self):
        def steps(device):
            device.append([3])
            device.clear()
            device.append([4, 5])

        self.check_kept(steps, [[1, 2], [1, 2, 3], [], [4], [4, 5]])

    def test_a_clearing_first_and_last(self):
        def steps(device):
            device.clear()
            device.append([0, 9])
            device.clear()

        self.check_kept(steps, [[1, 2], [], [0], [0, 9], []])

    def test_no_pending_steps(self):
        self.check_kept(lambda device: None, [[1, 2]])

    def test_lost_steps_do_not_come_back(self):
        self.device.append([1, 2, 3])
        self.device.crash([], 1)
        self.device.sync_log()
        self.assertEqual(self.device.log(), [1])
        self.device.append([4])
        self.device.crash([], 9)
        self.assertEqual(self.device.log(), [1, 4])

    def test_the_kept_steps_do_not_depend_on_the_page_writes(self):
        self.device.write_page(0, filled(1))
        self.device.append([1])
        self.device.write_page(1, filled(2))
        self.device.append([2])
        self.device.crash([0, 1], 1)
        self.assertEqual(self.device.page(0), ZEROS)
        self.assertEqual(self.device.page(1), filled(2))
        self.assertEqual(self.device.log(), [1])
        self.check_counts(0, 0, 4)


class CrashAndPowerTest(DeviceTest):
    def test_nothing_is_pending_and_steps_do_not_change(self):
        self.device.write_page(0, filled(1))
        self.device.append([1, 2])
        self.device.clear()
        self.device.crash([0], 0)
        self.check_counts(0, 0, 4)

    def test_a_crash_ends_the_limit(self):
        for allowed in (0, 1, 5):
            with self.subTest(allowed=allowed):
                self.device = Device()
                self.device.limit(allowed)
                self.device.crash([], 0)
                for _ in range(10):
                    for name in STEPS:
                        perform(self.device, name)
                self.assertEqual(self.device.steps(), 50)

    def test_a_crash_after_a_cut_append(self):
        self.device.write_page(3, filled(1))
        self.device.limit(2)
        with self.assertRaises(PowerCut):
            self.device.append([1, 2, 3])
        self.device.crash([2], 1)
        self.assertEqual(self.device.log(), [1])
        self.assertEqual(self.device.page(3), halves(1, 0))
        self.check_counts(0, 0, 3)
        self.device.append([8])
        self.assertEqual(self.device.log(), [1, 8])
        self.check_counts(0, 1, 4)

    def test_a_crash_needs_no_power(self):
        self.device.append([1, 2])
        self.device.limit(0)
        self.device.crash([], 2)
        self.assertEqual(self.device.log(), [1, 2])
        self.assertEqual(self.device.steps(), 2)

    def test_a_limit_after_a_crash(self):
        self.device.limit(5)
        self.device.crash([], 0)
        self.device.limit(1)
        self.device.clear()
        self.check_cut(self.device.clear)

    def test_a_crash_of_an_empty_device(self):
        self.device.crash([1, 2, 0], 3)
        self.check_counts(0, 0, 0)
        self.assertEqual(self.device.page(0), ZEROS)
        self.assertEqual(self.device.log(), [])


if __name__ == "__main__":
    unittest.main()
