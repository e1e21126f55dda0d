"""Tests of falls of power: whatever the limit and the crash, an opening gives a commit.

Each test performs a scenario once for each number of steps that power may be
limited to, lets the device crash in several ways, and opens pagers on it.
"""

import itertools
import random
import unittest

from nearvault.device import Device
from nearvault.errors import PowerCut
from nearvault.pager import Pager
from support import ZEROS, filled, head_of, page_of

WATCHED = (0, 1, 2, 3, 4, 5, 2**32 - 1)
FATES = (0, 1, 2)
ANY_LOG_STEPS = 10**6


def contents(pager):
    return {number: pager.read(number) for number in WATCHED}


def is_cut(method):
    """Return whether power fell during a call."""
    try:
        method()
    except PowerCut:
        return True
    return False


class PowerTest(unittest.TestCase):
    def setUp(self):
        self.begin()

    def begin(self):
        """Make a device with a checkpoint and a commit behind it."""
        self.device = Device()
        self.pager = Pager(self.device)
        self.pager.write(3, filled(30))
        self.pager.write(4, filled(40))
        self.pager.commit()
        self.pager.checkpoint()
        self.pager.write(4, filled(41))
        self.pager.write(2**32 - 1, filled(90))
        self.pager.commit()
        self.old = contents(self.pager)

    def check_opening(self, *allowed):
        """Check that an opening, and a second one, give one of the allowed contents."""
        found = contents(Pager(self.device))
        self.assertIn(found, allowed)
        self.assertEqual(contents(Pager(self.device)), found)
        self.device.crash([], 0)
        self.assertEqual(contents(Pager(self.device)), found)
        self.check_going_on(found)

    def check_going_on(self, expected):
        """Check that a pager on the device can commit and keeps what it commits."""
        pager = Pager(self.device)
        pager.write(5, filled(55))
        pager.commit()
        self.device.crash([], 0)
        self.assertEqual(contents(Pager(self.device)), {**expected, 5: filled(55)})

    def check_without_power(self):
        """Check that the cut stays: every further step of a pager raises PowerCut."""
        self.assertTrue(is_cut(self.device.sync_log))
        self.assertTrue(is_cut(self.device.sync_pages))


class CommitPowerTest(PowerTest):
    def write_pages(self, many):
        for number in (3, 4, 5)[:many]:
            self.pager.write(number, filled(100 + number))
        self.new = contents(self.pager)
        self.steps = 4 + many * 260 + 1

    def check_cut(self, allowed, kept, many=1):
        """Check a commit that is cut off behind `allowed` steps, and a crash."""
        self.begin()
        self.write_pages(many)
        self.device.limit(allowed)
        self.assertTrue(is_cut(self.pager.commit))
        self.check_without_power()
        self.device.crash([1, 2, 0], kept)
        # Only a group that is in the log to its last byte takes effect.
        complete = allowed == self.steps - 1 and kept >= allowed
        self.check_opening(self.new if complete else self.old)

    def test_each_step_with_each_number_of_kept_log_steps(self):
        self.write_pages(1)
        for allowed in range(self.steps):
            for kept in range(allowed + 1):
                self.check_cut(allowed, kept)

    def test_each_step_of_a_commit_of_three_pages(self):
        self.write_pages(3)
        for allowed in range(self.steps):
            for kept in (0, allowed // 2, allowed, ANY_LOG_STEPS):
                self.check_cut(allowed, kept, 3)

    def test_the_last_step_of_a_commit_of_three_pages(self):
        self.write_pages(3)
        last = self.steps - 1
        for kept in range(last + 2):
            self.check_cut(last, kept, 3)

    def test_a_commit_that_returned(self):
        for kept in (0, 1, 100, ANY_LOG_STEPS):
            for fates in ([], [0, 0], [1, 2]):
                with self.subTest(kept=kept, fates=fates):
                    self.begin()
                    self.write_pages(2)
                    self.device.limit(self.steps)
                    self.assertFalse(is_cut(self.pager.commit))
                    self.check_without_power()
                    self.device.crash(fates, kept)
                    self.check_opening(self.new)

    def test_dirty_pages_are_lost(self):
        self.write_pages(2)
        self.pager.allocate()
        self.device.crash([1, 1], ANY_LOG_STEPS)
        self.check_opening(self.old)

    def test_the_first_commit_on_an_empty_device(self):
        empty = {number: ZEROS for number in WATCHED}
        empty[0] = head_of(1, 0)
        for allowed in range(526):
            device = self.device = Device()
            pager = Pager(device)
            pager.write(3, filled(1))
            device.limit(allowed)
            cut = is_cut(pager.commit)
            self.assertEqual(cut, allowed < 525)
            device.crash([], ANY_LOG_STEPS)
            self.check_opening({**empty, 3: filled(1)} if allowed >= 524 else empty)

    def test_a_second_commit_behind_one_that_returned(self):
        for allowed in range(0, 265, 8):
            with self.subTest(allowed=allowed):
                self.begin()
                self.write_pages(3)
                self.pager.commit()
                self.pager.write(1, filled(11))
                self.device.limit(allowed)
                self.assertTrue(is_cut(self.pager.commit))
                self.device.crash([], ANY_LOG_STEPS)
                expected = {**self.new, 1: filled(11)} if allowed == 264 else self.new
                self.check_opening(expected)


class CheckpointPowerTest(PowerTest):
    def commit_pages(self):
        """Commit so much that a checkpoint writes four pages; return its steps."""
        self.pager.write(1, filled(11))
        self.pager.write(3, filled(33))
        self.pager.commit()
        self.pager.write(3, filled(34))
        self.pager.commit()
        self.new = contents(self.pager)
        return 4 + 3

    def test_each_step_with_each_fate_and_each_number_of_kept_log_steps(self):
        for allowed in range(7):
            for fates in itertools.product(FATES, repeat=min(allowed, 4)):
                for kept in (0, 1, 2):
                    self.begin()
                    self.commit_pages()
                    self.device.limit(allowed)
                    self.assertTrue(is_cut(self.pager.checkpoint))
                    self.check_without_power()
                    self.device.crash(list(fates), kept)
                    self.check_opening(self.new)

    def test_a_checkpoint_that_returned(self):
        for fates in ([], [0], [2, 2], [1]):
            for kept in (0, 1, ANY_LOG_STEPS):
                self.begin()
                steps = self.commit_pages()
                self.device.limit(steps)
                self.assertFalse(is_cut(self.pager.checkpoint))
                self.check_without_power()
                self.device.crash(fates, kept)
                self.check_opening(self.new)

    def test_a_checkpoint_with_dirty_pages_keeps_them_out(self):
        self.commit_pages()
        self.pager.write(4, filled(99))
        self.pager.checkpoint()
        self.assertEqual(self.pager.read(4), filled(99))
        self.device.crash([], 0)
        self.check_opening(self.new)

    def test_a_commit_behind_a_checkpoint_that_returned(self):
        for allowed in range(265):
            for kept in (0, allowed):
                self.begin()
                self.commit_pages()
                self.pager.checkpoint()
                self.pager.write(2, filled(22))
                self.device.limit(allowed)
                self.assertTrue(is_cut(self.pager.commit))
                self.device.crash([], kept)
                expected = {**self.new, 2: filled(22)} if kept == 264 else self.new
                self.check_opening(expected)


class OpeningPowerTest(PowerTest):
    """A log with two groups over three pages, behind an older state of the pages."""

    def fill_log(self, tail):
        self.pager.write(3, filled(31))
        self.pager.commit()
        self.new = contents(self.pager)
        self.device.append(tail)
        self.device.sync_log()

    def open_and_fall(self, allowed, fates, kept):
        self.device.limit(allowed)
        self.assertTrue(is_cut(lambda: Pager(self.device)))
        self.check_without_power()
        self.device.crash(list(fates), kept)

    def test_each_step_with_each_fate_and_each_number_of_kept_log_steps(self):
        for tail in ([], [0, 0, 0, 2, 9, 9]):
            for allowed in range(6):
                for fates in itertools.product(FATES, repeat=min(allowed, 3)):
                    for kept in (0, 1, 2):
                        self.begin()
                        self.fill_log(tail)
                        self.open_and_fall(allowed, fates, kept)
                        self.check_opening(self.new)

    def test_an_opening_that_returned(self):
        for fates in ([], [0], [2, 2, 2], [1]):
            for kept in (0, 1):
                self.begin()
                self.fill_log([1, 2])
                self.device.limit(6)
                self.assertFalse(is_cut(lambda: Pager(self.device)))
                self.device.crash(fates, kept)
                self.check_opening(self.new)

    def test_a_second_fall_while_the_pager_is_opened(self):
        for first, second in itertools.product(range(6), range(5)):
            for fates in itertools.product(FATES, repeat=min(second, 3)):
                self.begin()
                self.fill_log([0])
                # A clearing that is lost leaves the log for the second opening.
                self.open_and_fall(first, [2, 0, 2], 0)
                self.open_and_fall(second, fates, second % 2)
                self.check_opening(self.new)

    def test_a_third_fall(self):
        for falls in itertools.product(range(6), repeat=3):
            self.begin()
            self.fill_log([])
            for k, allowed in enumerate(falls):
                self.open_and_fall(allowed, [(k + allowed) % 3, 2, 1], 0)
            self.check_opening(self.new)

    def test_an_opening_behind_a_commit_that_was_cut_off(self):
        for allowed, first, kept in itertools.product((0, 3, 4, 100, 263, 264), range(6), (0, 1)):
            self.begin()
            self.pager.write(3, filled(31))
            new = contents(self.pager)
            self.device.limit(allowed)
            self.assertTrue(is_cut(self.pager.commit))
            self.device.crash([], ANY_LOG_STEPS)
            expected = new if allowed == 264 else self.old
            # Without the third page there is one step less up to the end.
            steps = 6 if allowed == 264 else 5
            if first < steps:
                self.open_and_fall(first, [2, 1, 0], kept)
            self.check_opening(expected)

    def test_the_free_pages_behind_falls(self):
        for allowed in range(7):
            self.begin()
            for _ in range(3):
                self.pager.allocate()
            self.pager.release(2)
            self.pager.release(1)
            self.pager.commit()
            self.device.limit(allowed)
            self.assertTrue(is_cut(self.pager.checkpoint))
            self.device.crash([2, 1, 0], 1)
            pager = Pager(self.device)
            self.assertEqual(pager.read(0), page_of(0, 0, 0, 0, 0, 0, 4, 1))
            self.assertEqual([pager.allocate() for _ in range(3)], [1, 2, 4])


class ManyFallsTest(unittest.TestCase):
    """Any order of commits, checkpoints and openings with falls of power in between."""

    def run_calls(self, seed):
        chance = random.Random(seed)
        device = Device()
        pager = Pager(device)
        committed = {**{number: ZEROS for number in WATCHED}, 0: head_of(1, 0)}
        for turn in range(60):
            for number in chance.sample((1, 2, 3, 4, 5), chance.randrange(3)):
                pager.write(number, filled(chance.randrange(1, 256)))
            newest = contents(pager)
            device.limit(chance.choice((None, None, 0, 1, 3, 264, 266, 268, chance.randrange(1200))))
            allowed = [committed, newest]
            try:
                pager.commit()
                allowed = [newest]
                if chance.randrange(2):
                    pager.checkpoint()
                if chance.randrange(2):
                    pager = Pager(device)
            except PowerCut:
                device.crash([chance.randrange(3) for _ in range(3)], chance.choice((0, 1, 200, 264, ANY_LOG_STEPS)))
                pager = Pager(device)
            committed = contents(pager)
            self.assertIn(committed, allowed, (seed, turn))

    def test_many_calls(self):
        for seed in range(60):
            self.run_calls(seed)


if __name__ == "__main__":
    unittest.main()
