"""Tests of nearvault.points: distances, and numbers and points in bytes."""

import itertools
import unittest

from nearvault.points import (
    METRICS,
    distance,
    read_number,
    read_point,
    write_number,
    write_point,
)

LOWEST = -32768
HIGHEST = 32767

ONE_COORDINATE = [(x,) for x in (LOWEST, LOWEST + 1, -300, -1, 0, 1, 2, 300, HIGHEST - 1, HIGHEST)]
TWO_COORDINATES = list(itertools.product((LOWEST, -1, 0, 1, HIGHEST), repeat=2))
EIGHT_COORDINATES = [
    (LOWEST,) * 8,
    (HIGHEST,) * 8,
    (0,) * 8,
    (0, 0, 0, 0, 0, 0, 0, 1),
    (1, 0, 0, 0, 0, 0, 0, 0),
    (-1, 0, 0, 0, 0, 0, 0, 0),
    (LOWEST, HIGHEST) * 4,
    (HIGHEST, LOWEST) * 4,
    (1, 2, 3, 4, 5, 6, 7, 8),
    (8, 7, 6, 5, 4, 3, 2, 1),
    (1, 2, 3, 4, -5, -6, -7, -8),
    (LOWEST, -1000, -1, 0, 1, 1000, 30000, HIGHEST),
]
SAMPLES = (ONE_COORDINATE, TWO_COORDINATES, EIGHT_COORDINATES)


def distances(a, b):
    return [distance(metric, a, b) for metric in ("sum", "greatest", "unlike")]


class DistanceTest(unittest.TestCase):
    def test_metrics(self):
        self.assertEqual(METRICS, ("sum", "greatest", "unlike"))
        self.assertIs(type(METRICS), tuple)

    def test_example_of_the_document(self):
        found = [
            distance("sum", (1, 5), (4, 1)),
            distance("greatest", (1, 5), (4, 1)),
            distance("unlike", (1, 5), (1, 1)),
        ]
        self.assertEqual(found, [7, 4, 1])

    def test_one_coordinate(self):
        self.assertEqual(distances((3,), (10,)), [7, 7, 1])
        self.assertEqual(distances((10,), (3,)), [7, 7, 1])
        self.assertEqual(distances((-3,), (4,)), [7, 7, 1])
        self.assertEqual(distances((-3,), (-10,)), [7, 7, 1])
        self.assertEqual(distances((5,), (6,)), [1, 1, 1])
        self.assertEqual(distances((0,), (0,)), [0, 0, 0])

    def test_one_coordinate_over_the_whole_range(self):
        self.assertEqual(distances((LOWEST,), (HIGHEST,)), [65535, 65535, 1])
        self.assertEqual(distances((HIGHEST,), (LOWEST,)), [65535, 65535, 1])
        self.assertEqual(distances((LOWEST,), (0,)), [32768, 32768, 1])
        self.assertEqual(distances((0,), (HIGHEST,)), [32767, 32767, 1])

    def test_eight_coordinates(self):
        a = (1, 2, 3, 4, 5, 6, 7, 8)
        b = (8, 7, 6, 5, 4, 3, 2, 1)
        self.assertEqual(distances(a, b), [32, 7, 8])
        c = (1, 2, 3, 4, -5, -6, -7, -8)
        self.assertEqual(distances(a, c), [52, 16, 4])

    def test_eight_coordinates_over_the_whole_range(self):
        self.assertEqual(distances((LOWEST,) * 8, (HIGHEST,) * 8), [524280, 65535, 8])
        self.assertEqual(distances((LOWEST, HIGHEST) * 4, (HIGHEST, LOWEST) * 4), [524280, 65535, 8])

    def test_eight_coordinates_near_one_another(self):
        a = (LOWEST, -1000, -1, 0, 1, 1000, 30000, HIGHEST)
        b = (LOWEST + 1, -1001, 0, 1, 0, 1001, 29999, HIGHEST - 1)
        self.assertEqual(distances(a, b), [8, 1, 8])

    def test_some_equal_coordinates(self):
        a = (4, 9, -2, 9, 0, 7, 7, 1)
        b = (4, 5, -2, 19, 0, 7, 8, 1)
        self.assertEqual(distances(a, b), [15, 10, 3])

    def test_the_greatest_difference_may_stand_anywhere(self):
        for place in range(8):
            other = [1] * 8
            other[place] = -5
            with self.subTest(place=place):
                self.assertEqual(distances((0,) * 8, tuple(other)), [12, 5, 8])

    def test_equal_points_of_every_length(self):
        for many in range(1, 9):
            point = tuple(range(-3, many - 3))
            other = tuple(list(point))
            with self.subTest(many=many):
                self.assertEqual(distances(point, other), [0, 0, 0])

    def test_integer_and_zero_exactly_for_equal_points_and_symmetric(self):
        for points in SAMPLES:
            for metric, a, b in itertools.product(METRICS, points, points):
                found = distance(metric, a, b)
                with self.subTest(metric=metric, a=a, b=b):
                    self.assertIs(type(found), int)
                    self.assertGreaterEqual(found, 0)
                    self.assertEqual(found == 0, a == b)
                    self.assertEqual(found, distance(metric, b, a))

    def test_triangle_inequality(self):
        for points in SAMPLES:
            for metric, a, b, c in itertools.product(METRICS, points, points, points):
                direct = distance(metric, a, c)
                self.assertLessEqual(
                    direct, distance(metric, a, b) + distance(metric, b, c), (metric, a, b, c)
                )


class NumberTest(unittest.TestCase):
    def test_most_significant_byte_first(self):
        self.assertEqual(write_number(1, 7), [7])
        self.assertEqual(write_number(2, 0x0102), [1, 2])
        self.assertEqual(write_number(3, 0x010203), [1, 2, 3])
        self.assertEqual(write_number(4, 0x01020304), [1, 2, 3, 4])
        self.assertEqual(write_number(4, 5), [0, 0, 0, 5])

    def test_zero_and_the_greatest_number(self):
        for width in (1, 2, 3, 4):
            greatest = 256**width - 1
            with self.subTest(width=width):
                self.assertEqual(write_number(width, 0), [0] * width)
                self.assertEqual(write_number(width, greatest), [255] * width)
                self.assertEqual(read_number([0] * width, 0, width), 0)
                self.assertEqual(read_number([255] * width, 0, width), greatest)

    def test_every_number_of_one_and_two_bytes(self):
        for number in range(256):
            self.assertEqual(write_number(1, number), [number])
            self.assertEqual(read_number([number], 0, 1), number)
        for number in range(65536):
            data = [number // 256, number % 256]
            self.assertEqual(write_number(2, number), data)
            self.assertEqual(read_number(data, 0, 2), number)

    def test_numbers_around_each_power_of_two(self):
        for width in (1, 2, 3, 4):
            for power in range(8 * width):
                for number in (2**power - 1, 2**power, 2**power + 1):
                    if number >= 256**width:
                        continue
                    with self.subTest(width=width, number=number):
                        data = write_number(width, number)
                        self.assertEqual(data, list(number.to_bytes(width, "big")))
                        self.assertEqual(read_number(data, 0, width), number)

    def test_a_written_number_is_a_new_list_of_integers(self):
        first = write_number(4, 0x01020304)
        self.assertIs(type(first), list)
        self.assertEqual([type(byte) for byte in first], [int] * 4)
        first[0] = 99
        self.assertEqual(write_number(4, 0x01020304), [1, 2, 3, 4])

    def test_reading_from_any_place(self):
        data = [9, 8, 7, 6, 5, 4, 255, 0]
        for width in (1, 2, 3, 4):
            for place in range(len(data) - width + 1):
                expected = int.from_bytes(bytes(data[place : place + width]), "big")
                with self.subTest(width=width, place=place):
                    found = read_number(data, place, width)
                    self.assertEqual(found, expected)
                    self.assertIs(type(found), int)
        self.assertEqual(data, [9, 8, 7, 6, 5, 4, 255, 0])

    def test_written_between_other_bytes(self):
        data = [255, 255] + write_number(3, 66051) + [255]
        self.assertEqual(data, [255, 255, 1, 2, 3, 255])
        self.assertEqual(read_number(data, 2, 3), 66051)


class PointTest(unittest.TestCase):
    def test_example_of_the_document(self):
        self.assertEqual(write_point((-32768, 1)), [0, 0, 128, 1])

    def test_edges_of_a_coordinate(self):
        cases = (
            (LOWEST, [0, 0]),
            (LOWEST + 1, [0, 1]),
            (-1, [127, 255]),
            (0, [128, 0]),
            (1, [128, 1]),
            (HIGHEST - 1, [255, 254]),
            (HIGHEST, [255, 255]),
        )
        for coordinate, data in cases:
            with self.subTest(coordinate=coordinate):
                self.assertEqual(write_point((coordinate,)), data)
                self.assertEqual(read_point(data, 0, 1), (coordinate,))

    def test_every_coordinate(self):
        for coordinate in range(LOWEST, HIGHEST + 1):
            data = write_point((coordinate,))
            self.assertEqual(data, [(coordinate + 32768) // 256, (coordinate + 32768) % 256])
            self.assertEqual(read_point(data, 0, 1), (coordinate,))

    def test_one_to_eight_coordinates(self):
        point = (LOWEST, -1, 0, HIGHEST, -1, HIGHEST, LOWEST, 0)
        data = [0, 0, 127, 255, 128, 0, 255, 255, 127, 255, 255, 255, 0, 0, 128, 0]
        for many in range(1, 9):
            with self.subTest(many=many):
                self.assertEqual(write_point(point[:many]), data[: 2 * many])
                found = read_point(data[: 2 * many], 0, many)
                self.assertEqual(found, point[:many])
                self.assertIs(type(found), tuple)
                self.assertEqual([type(coordinate) for coordinate in found], [int] * many)

    def test_reading_from_any_place(self):
        for before, after in itertools.product(([], [7], [1, 2, 3]), ([], [0], [255, 254])):
            for many in range(1, 9):
                point = tuple(-3 * k * k + 100 for k in range(many))
                data = before + write_point(point) + after
                copy = list(data)
                with self.subTest(before=before, after=after, many=many):
                    self.assertEqual(read_point(data, len(before), many), point)
                    self.assertEqual(data, copy)

    def test_fewer_coordinates_than_there_are(self):
        data = write_point((5, 6, 7))
        self.assertEqual(read_point(data, 0, 1), (5,))
        self.assertEqual(read_point(data, 2, 2), (6, 7))

    def test_a_written_point_is_a_new_list(self):
        first = write_point((1, 2))
        self.assertIs(type(first), list)
        first[0] = 0
        self.assertEqual(write_point((1, 2)), [128, 1, 128, 2])


if __name__ == "__main__":
    unittest.main()
