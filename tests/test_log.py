"""Tests of nearvault.log: groups of pages in the bytes of a log."""

import unittest

from nearvault.log import read_groups, write_group

GREATEST = 2**32 - 1
MIXED = [(7 * k + 3) % 256 for k in range(256)]
UPWARDS = list(range(256))


def filled(byte):
    return [byte] * 256


# Each group is written out here by hand, as point 7 says it.
GROUPS = (
    ([], [0, 0, 0, 0]),
    ([(0, filled(0))], [0, 0, 0, 1] + [0, 0, 0, 0] + filled(0)),
    ([(GREATEST, filled(255))], [0, 0, 0, 1] + [255] * 4 + filled(255)),
    ([(0x01020304, UPWARDS)], [0, 0, 0, 1] + [1, 2, 3, 4] + UPWARDS),
    (
        [(0, UPWARDS), (GREATEST, MIXED)],
        [0, 0, 0, 2] + [0, 0, 0, 0] + UPWARDS + [255] * 4 + MIXED,
    ),
    (
        [(9, filled(1)), (256, MIXED), (9, filled(0)), (65536, UPWARDS)],
        [0, 0, 0, 4]
        + [0, 0, 0, 9] + filled(1)
        + [0, 0, 1, 0] + MIXED
        + [0, 0, 0, 9] + filled(0)
        + [0, 1, 0, 0] + UPWARDS,
    ),
)


class WriteGroupTest(unittest.TestCase):
    def test_each_group(self):
        for pairs, data in GROUPS:
            with self.subTest(many=len(pairs)):
                self.assertEqual(write_group(pairs), data)

    def test_a_group_of_more_than_255_pairs(self):
        pairs = [(k, filled(k % 256)) for k in range(300)]
        data = write_group(pairs)
        self.assertEqual(len(data), 4 + 300 * 260)
        self.assertEqual(data[:4], [0, 0, 1, 44])
        self.assertEqual(read_groups(data), [pairs])

    def test_a_group_is_a_new_list_of_integers(self):
        pairs = [(5, filled(1))]
        first = write_group(pairs)
        self.assertIs(type(first), list)
        self.assertEqual({type(byte) for byte in first}, {int})
        first[10] = 99
        self.assertEqual(write_group(pairs), [0, 0, 0, 1, 0, 0, 0, 5] + filled(1))

    def test_the_arguments_stay_as_they_are(self):
        content = list(UPWARDS)
        pairs = [(5, content), (6, content)]
        data = write_group(pairs)
        data[8] = 99
        self.assertEqual(pairs, [(5, UPWARDS), (6, UPWARDS)])
        self.assertEqual(content, UPWARDS)


class ReadGroupsTest(unittest.TestCase):
    def test_an_empty_log(self):
        self.assertEqual(read_groups([]), [])

    def test_each_group_alone(self):
        for pairs, data in GROUPS:
            with self.subTest(many=len(pairs)):
                self.assertEqual(read_groups(data), [pairs])

    def test_all_groups_one_after_another(self):
        data = [byte for _, group in GROUPS for byte in group]
        self.assertEqual(read_groups(data), [pairs for pairs, _ in GROUPS])

    def test_two_of_any_groups_one_after_another(self):
        for first_pairs, first in GROUPS:
            for second_pairs, second in GROUPS:
                self.assertEqual(read_groups(first + second), [first_pairs, second_pairs])

    def test_several_groups_without_pairs(self):
        self.assertEqual(read_groups([0] * 12), [[], [], []])

    def test_kinds_of_values(self):
        for groups in (read_groups([]), read_groups(GROUPS[4][1])):
            self.assertIs(type(groups), list)
            for group in groups:
                self.assertIs(type(group), list)
                for pair in group:
                    self.assertIs(type(pair), tuple)
                    self.assertEqual([type(part) for part in pair], [int, list])

    def test_the_argument_stays_as_it_is(self):
        data = list(GROUPS[4][1])
        groups = read_groups(data)
        groups[0][0][1][0] = 99
        self.assertEqual(data, GROUPS[4][1])
        data[8] = 98
        self.assertEqual(groups[0][0][1], [99] + UPWARDS[1:])
        self.assertEqual(read_groups(data)[0][0][1], [98] + UPWARDS[1:])


class IncompleteGroupTest(unittest.TestCase):
    def test_a_further_group_cut_off_at_each_place(self):
        for before_pairs, before in ([], []), ([GROUPS[0][0]], GROUPS[0][1]), ([GROUPS[4][0]], GROUPS[4][1]):
            for _, data in GROUPS:
                for many in range(len(data)):
                    self.assertEqual(read_groups(before + data[:many]), before_pairs, (many, data[:4]))

    def test_several_groups_before_the_one_that_is_cut_off(self):
        before = [byte for _, group in GROUPS for byte in group]
        expected = [pairs for pairs, _ in GROUPS]
        data = GROUPS[4][1]
        # Places in the number of pairs, in each page number and in each page.
        for many in (0, 1, 2, 3, 4, 5, 7, 8, 9, 100, 263, 264, 265, 267, 268, 269, 400, 522, 523):
            with self.subTest(many=many):
                self.assertEqual(read_groups(before + data[:many]), expected)
        self.assertEqual(read_groups(before + data), expected + [GROUPS[4][0]])

    def test_a_group_without_pairs_cut_off(self):
        self.assertEqual(read_groups([0]), [])
        self.assertEqual(read_groups([0, 0, 0]), [])
        self.assertEqual(read_groups([0, 0, 0, 0, 0, 0, 0]), [[]])

    def test_more_pairs_than_the_log_can_have(self):
        self.assertEqual(read_groups([255] * 4 + filled(1) * 3), [])
        self.assertEqual(read_groups([0, 0, 0, 0] + [1, 0, 0, 0] + filled(1) * 3), [[]])


if __name__ == "__main__":
    unittest.main()
