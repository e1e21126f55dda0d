"""Tests of the steps that a pager takes on its device, each of them told."""

import unittest

from nearvault.device import Device
from nearvault.log import read_groups
from nearvault.pager import Pager
from support import RecordingDevice, ZEROS, appended, filled, group_of, head_of, page_of

GREATEST = 2**32 - 1
END_OF_CHECKPOINT = ["sync pages", "clear", "sync log"]


class StepsTest(unittest.TestCase):
    def setUp(self):
        self.device = RecordingDevice()
        self.pager = Pager(self.device)
        # The head is dirty behind the opening; most tests begin without dirty pages.
        self.pager.commit()
        self.pager.checkpoint()
        self.device.take_asked()

    def check_asked(self, expected):
        self.assertEqual(self.device.take_asked(), expected)

    def commit(self, **pages):
        """Write pages (p3=..) and commit them."""
        for name, data in pages.items():
            self.pager.write(int(name[1:]), data)
        self.pager.commit()


class CommitStepsTest(StepsTest):
    def test_no_dirty_page(self):
        self.pager.commit()
        self.check_asked([])

    def test_no_dirty_page_behind_a_commit_a_checkpoint_a_rollback_and_an_opening(self):
        self.commit(p3=filled(1))
        self.device.take_asked()
        self.pager.commit()
        self.check_asked([])
        self.pager.checkpoint()
        self.device.take_asked()
        self.pager.commit()
        self.check_asked([])
        self.pager.write(3, filled(2))
        self.pager.rollback()
        self.pager.commit()
        self.check_asked([])
        self.pager = Pager(self.device)
        self.pager.commit()
        self.check_asked([])

    def test_no_dirty_page_needs_no_power(self):
        self.device.limit(0)
        self.pager.commit()
        self.check_asked([])

    def test_one_page(self):
        content = list(range(256))
        self.commit(p3=content)
        group = group_of((3, content))
        self.check_asked(appended(group) + ["sync log"])
        self.assertEqual(self.device.log(), group)
        self.assertEqual(self.device.pending(), (0, 0))
        self.assertEqual(self.device.page(3), ZEROS)

    def test_several_pages_in_ascending_order(self):
        for number in (9, 2, GREATEST, 1, 256, 10):
            self.pager.write(number, filled(number % 200))
        self.pager.commit()
        order = [(number, filled(number % 200)) for number in (1, 2, 9, 10, 256, GREATEST)]
        self.check_asked(appended(group_of(*order)) + ["sync log"])
        self.assertEqual(self.device.log(), group_of(*order))

    def test_only_the_dirty_pages(self):
        self.commit(p1=filled(1), p2=filled(2), p3=filled(3))
        before = self.device.log()
        self.device.take_asked()
        self.commit(p2=filled(4))
        group = group_of((2, filled(4)))
        self.check_asked(appended(group) + ["sync log"])
        self.assertEqual(self.device.log(), before + group)

    def test_a_page_written_several_times_stands_once(self):
        self.pager.write(3, filled(1))
        self.pager.write(4, filled(2))
        self.commit(p3=filled(5))
        self.check_asked(appended(group_of((3, filled(5)), (4, filled(2)))) + ["sync log"])

    def test_a_page_written_with_the_content_that_it_has(self):
        self.commit(p3=ZEROS)
        self.check_asked(appended(group_of((3, ZEROS))) + ["sync log"])
        self.commit(p3=ZEROS)
        self.check_asked(appended(group_of((3, ZEROS))) + ["sync log"])
        self.commit(p3=filled(1))
        self.pager.checkpoint()
        self.device.take_asked()
        self.commit(p3=filled(1))
        self.check_asked(appended(group_of((3, filled(1)))) + ["sync log"])

    def test_a_page_written_back_to_what_it_was(self):
        self.commit(p3=filled(1))
        self.device.take_asked()
        self.pager.write(3, filled(2))
        self.commit(p3=filled(1))
        self.check_asked(appended(group_of((3, filled(1)))) + ["sync log"])

    def test_a_number_set_to_what_it_is(self):
        self.pager.set_field(3, 0)
        self.pager.commit()
        self.check_asked(appended(group_of((0, head_of(1, 0)))) + ["sync log"])

    def test_allocating_and_releasing(self):
        self.pager.allocate()
        self.pager.commit()
        self.check_asked(appended(group_of((0, head_of(2, 0)), (1, ZEROS))) + ["sync log"])
        self.pager.allocate()
        self.pager.release(1)
        self.pager.release(2)
        self.pager.commit()
        self.check_asked(appended(group_of((0, head_of(3, 2)), (1, ZEROS), (2, page_of(1)))) + ["sync log"])
        self.pager.allocate()
        self.pager.commit()
        self.check_asked(appended(group_of((0, head_of(3, 1)), (2, ZEROS))) + ["sync log"])

    def test_dirty_pages_that_were_rolled_back(self):
        self.pager.write(3, filled(1))
        self.pager.rollback()
        self.commit(p4=filled(2))
        self.check_asked(appended(group_of((4, filled(2)))) + ["sync log"])

    def test_the_groups_stand_one_after_another(self):
        self.commit(p3=filled(1))
        self.commit(p3=filled(2), p1=filled(9))
        expected = [[(3, filled(1))], [(1, filled(9)), (3, filled(2))]]
        self.assertEqual(read_groups(self.device.log()), expected)

    def test_the_head_of_an_empty_device_is_dirty(self):
        device = RecordingDevice()
        pager = Pager(device)
        self.assertEqual(device.asked, [])
        pager.commit()
        self.assertEqual(device.asked, appended(group_of((0, head_of(1, 0)))) + ["sync log"])

    def test_the_head_is_dirty_behind_a_rollback_on_an_empty_device(self):
        device = RecordingDevice()
        pager = Pager(device)
        pager.write(3, filled(1))
        pager.set_field(1, 8)
        pager.rollback()
        self.assertEqual(device.asked, [])
        pager.commit()
        self.assertEqual(device.asked, appended(group_of((0, head_of(1, 0)))) + ["sync log"])

    def test_a_number_of_pages_of_0_makes_the_head_dirty_at_a_rollback(self):
        self.pager.set_field(6, 0)
        self.pager.commit()
        self.device.take_asked()
        self.pager.commit()
        self.check_asked([])
        self.pager.rollback()
        self.check_asked([])
        self.pager.commit()
        self.check_asked(appended(group_of((0, head_of(1, 0)))) + ["sync log"])


class CheckpointStepsTest(StepsTest):
    def test_nothing_committed(self):
        self.pager.checkpoint()
        self.check_asked(END_OF_CHECKPOINT)
        self.pager.checkpoint()
        self.check_asked(END_OF_CHECKPOINT)

    def test_the_pages_of_several_commits_in_ascending_order(self):
        self.commit(p9=filled(1), p2=filled(2))
        self.commit(p1=filled(3), p300=filled(4), p10=filled(5))
        self.commit(p4294967295=filled(6))
        self.device.take_asked()
        self.pager.checkpoint()
        writes = [
            ("write", 1, filled(3)),
            ("write", 2, filled(2)),
            ("write", 9, filled(1)),
            ("write", 10, filled(5)),
            ("write", 300, filled(4)),
            ("write", GREATEST, filled(6)),
        ]
        self.check_asked(writes + END_OF_CHECKPOINT)
        self.assertEqual(self.device.log(), [])
        self.assertEqual(self.device.pending(), (0, 0))
        self.device.crash([], 0)
        for _, number, data in writes:
            self.assertEqual(self.device.page(number), data)

    def test_each_page_once_with_the_content_of_the_last_commit(self):
        self.commit(p3=filled(1))
        self.commit(p3=filled(2))
        self.commit(p3=filled(3))
        self.device.take_asked()
        self.pager.checkpoint()
        self.check_asked([("write", 3, filled(3))] + END_OF_CHECKPOINT)

    def test_only_the_pages_since_the_last_checkpoint(self):
        self.commit(p3=filled(1), p4=filled(2))
        self.pager.checkpoint()
        self.commit(p4=filled(3))
        self.device.take_asked()
        self.pager.checkpoint()
        self.check_asked([("write", 4, filled(3))] + END_OF_CHECKPOINT)
        self.pager.checkpoint()
        self.check_asked(END_OF_CHECKPOINT)

    def test_pages_that_were_rolled_back(self):
        self.commit(p3=filled(1))
        self.pager.write(3, filled(2))
        self.pager.write(4, filled(3))
        self.pager.rollback()
        self.device.take_asked()
        self.pager.checkpoint()
        self.check_asked([("write", 3, filled(1))] + END_OF_CHECKPOINT)

    def test_a_page_committed_with_the_content_that_it_had(self):
        self.commit(p3=filled(1))
        self.pager.checkpoint()
        self.commit(p3=filled(1))
        self.device.take_asked()
        self.pager.checkpoint()
        self.check_asked([("write", 3, filled(1))] + END_OF_CHECKPOINT)

    def test_a_commit_behind_a_checkpoint_begins_the_log_anew(self):
        self.commit(p3=filled(1))
        self.pager.checkpoint()
        self.commit(p4=filled(2))
        self.assertEqual(self.device.log(), group_of((4, filled(2))))


class OpeningStepsTest(StepsTest):
    def test_an_empty_device(self):
        device = RecordingDevice()
        Pager(device)
        self.assertEqual(device.asked, [])
        self.assertEqual(device.pending(), (0, 0))
        self.assertEqual(device.page(0), ZEROS)

    def test_an_empty_log(self):
        self.commit(p3=filled(1))
        self.pager.checkpoint()
        self.device.take_asked()
        Pager(self.device)
        self.check_asked([])

    def test_an_empty_log_needs_no_power(self):
        self.device.limit(0)
        Pager(self.device)
        self.check_asked([])

    def test_groups_in_the_log(self):
        self.commit(p9=filled(1), p2=filled(2))
        self.commit(p4=filled(3), p9=filled(4))
        self.device.take_asked()
        pager = Pager(self.device)
        writes = [("write", 2, filled(2)), ("write", 4, filled(3)), ("write", 9, filled(4))]
        self.check_asked(writes + END_OF_CHECKPOINT)
        self.assertEqual(self.device.log(), [])
        self.assertEqual(self.device.pending(), (0, 0))
        pager.checkpoint()
        self.check_asked(END_OF_CHECKPOINT)
        Pager(self.device)
        self.check_asked([])

    def test_a_log_with_an_incomplete_group_alone(self):
        self.device.append(group_of((3, filled(1)))[:-1])
        self.device.take_asked()
        pager = Pager(self.device)
        self.check_asked(END_OF_CHECKPOINT)
        self.assertEqual(pager.read(3), ZEROS)
        self.assertEqual(self.device.log(), [])

    def test_a_log_with_one_byte(self):
        self.device.append([0])
        self.device.take_asked()
        Pager(self.device)
        self.check_asked(END_OF_CHECKPOINT)

    def test_a_log_with_a_group_without_pages(self):
        self.device.append([0, 0, 0, 0])
        self.device.take_asked()
        Pager(self.device)
        self.check_asked(END_OF_CHECKPOINT)

    def test_an_incomplete_group_behind_complete_ones(self):
        self.device.append(group_of((3, filled(1))) + group_of((4, filled(2)), (3, filled(3)))[:-1])
        self.device.sync_log()
        self.device.take_asked()
        pager = Pager(self.device)
        self.check_asked([("write", 3, filled(1))] + END_OF_CHECKPOINT)
        self.assertEqual([pager.read(3), pager.read(4)], [filled(1), ZEROS])

    def test_groups_take_effect_in_their_order_and_pairs_too(self):
        self.device.append(group_of((3, filled(1)), (3, filled(2)), (4, filled(3))) + group_of((4, filled(4))))
        self.device.take_asked()
        pager = Pager(self.device)
        self.check_asked([("write", 3, filled(2)), ("write", 4, filled(4))] + END_OF_CHECKPOINT)
        self.assertEqual([pager.read(3), pager.read(4)], [filled(2), filled(4)])

    def test_the_number_of_pages_is_set_behind_the_checkpoint(self):
        device = RecordingDevice()
        device.append(group_of((0, head_of(0, 0)), (3, filled(1))))
        device.take_asked()
        pager = Pager(device)
        expected = [("write", 0, ZEROS), ("write", 3, filled(1))] + END_OF_CHECKPOINT
        self.assertEqual(device.take_asked(), expected)
        self.assertEqual(device.page(0), ZEROS)
        self.assertEqual(pager.read(0), head_of(1, 0))
        pager.commit()
        self.assertEqual(device.take_asked(), appended(group_of((0, head_of(1, 0)))) + ["sync log"])

    def test_no_page_is_dirty_behind_an_opening(self):
        self.commit(p3=filled(1))
        pager = Pager(self.device)
        self.device.take_asked()
        pager.commit()
        self.check_asked([])


class NoStepsTest(StepsTest):
    def test_everything_else_takes_no_step(self):
        self.device.limit(0)
        pager = self.pager
        for _ in range(3):
            pager.write(pager.allocate(), filled(1))
        pager.release(2)
        pager.allocate()
        pager.release(1)
        for k in range(8):
            pager.field(k)
            pager.set_field(k, 3)
        pager.write(5, filled(5))
        pager.read(5)
        pager.read(6)
        pager.rollback()
        pager.read(5)
        pager.rollback()
        self.check_asked([])

    def test_the_device_itself_counts_the_same_steps(self):
        device = Device()
        pager = Pager(device)
        self.assertEqual(device.steps(), 0)
        pager.commit()
        self.assertEqual(device.steps(), 4 + 260 + 1)
        for number in (1, 2, 3):
            pager.write(number, filled(1))
        pager.commit()
        self.assertEqual(device.steps(), 265 + 4 + 3 * 260 + 1)
        pager.checkpoint()
        self.assertEqual(device.steps(), 265 + 785 + 4 + 3)
        pager.commit()
        Pager(device)
        self.assertEqual(device.steps(), 265 + 785 + 7)
        self.assertEqual(device.pending(), (0, 0))


if __name__ == "__main__":
    unittest.main()
