"""Whole answers of walk, number by number, in gardens that can be followed by hand."""

import unittest

from tests.helper import ONE_SQUARE, RING, ROOMS, TALL, open_garden, signs
from threadwalk.desk import walk

ALL_OPEN = """
    0 1 2 3 4 5 6 7 8 9 19 29 39 49 59 69 79 89 99
    98 88 78 68 58 48 38 28 18 8 18 19 18
    17 7 17 27 28 27 37 38 37 47 48 47 57 58 57 67 68 67 77 78 77 87 88 87 97 98 97
    96 86 76 66 56 46 36 26 16 6 16 17 16
    15 5 15 25 26 25 35 36 35 45 46 45 55 56 55 65 66 65 75 76 75 85 86 85 95 96 95
    94 84 74 64 54 44 34 24 14 4 14 15 14
    13 3 13 23 24 23 33 34 33 43 44 43 53 54 53 63 64 63 73 74 73 83 84 83 93 94 93
    92 82 72 62 52 42 32 22 12 2 12 13 12
    11 1 11 21 22 21 31 32 31 41 42 41 51 52 51 61 62 61 71 72 71 81 82 81 91 92 91
    90 80 70 60 50 40 30 20 10 0
    10 11 10 20 21 20 30 31 30 40 41 40 50 51 50 60 61 60 70 71 70 80 81 80 90
    91 81 71 61 51 41 31 21 11
    12 22 23 22 32 33 32 42 43 42 52 53 52 62 63 62 72 73 72 82 83 82 92
    93 83 73 63 53 43 33 23 13
    14 24 25 24 34 35 34 44 45 44 54 55 54 64 65 64 74 75 74 84 85 84 94
    95 85 75 65 55 45 35 25 15
    16 26 27 26 36 37 36 46 47 46 56 57 56 66 67 66 76 77 76 86 87 86 96
    97 87 77 67 57 47 37 27 17
    18 28 29 28 38 39 38 48 49 48 58 59 58 68 69 68 78 79 78 88 89 88 98
    99 89 79 69 59 49 39 29 19
    9 8 7 6 5 4 3 2 1 0
"""


class OneWayOnly(unittest.TestCase):
    def test_one_square(self):
        self.assertEqual(walk(0, signs(ONE_SQUARE)), [0, 0])

    def test_a_row(self):
        row = open_garden(4, 1)
        self.assertEqual(walk(0, row), [0, 0, 1, 2, 3, 2, 1, 0])
        self.assertEqual(walk(1, row), [0, 1, 2, 3, 2, 1, 0, 1])
        self.assertEqual(walk(2, row), [0, 2, 3, 2, 1, 0, 1, 2])
        self.assertEqual(walk(3, row), [0, 3, 2, 1, 0, 1, 2, 3])

    def test_a_column(self):
        column = open_garden(1, 4)
        self.assertEqual(walk(0, column), [0, 0, 1, 2, 3, 2, 1, 0])
        self.assertEqual(walk(1, column), [0, 1, 0, 1, 2, 3, 2, 1])
        self.assertEqual(walk(2, column), [0, 2, 1, 0, 1, 2, 3, 2])
        self.assertEqual(walk(3, column), [0, 3, 2, 1, 0, 1, 2, 3])

    def test_the_longest_row_and_column(self):
        there_and_back = list(range(10)) + list(range(8, -1, -1))
        self.assertEqual(walk(0, open_garden(10, 1)), [0] + there_and_back)
        self.assertEqual(walk(0, open_garden(1, 10)), [0] + there_and_back)

    def test_squares_that_are_rooms_by_themselves(self):
        row = signs("+-+-+\n| | |\n+-+-+\n")
        self.assertEqual(walk(0, row), [0, 0])
        self.assertEqual(walk(1, row), [0, 1])
        column = signs("+-+\n| |\n+-+\n| |\n+-+\n")
        self.assertEqual(walk(0, column), [0, 0])
        self.assertEqual(walk(1, column), [0, 1])


class Rings(unittest.TestCase):
    def test_two_by_two_from_each_square(self):
        ring = signs(RING)
        self.assertEqual(walk(0, ring), [0, 0, 1, 3, 2, 0, 2, 3, 1, 0])
        self.assertEqual(walk(1, ring), [0, 1, 3, 2, 0, 1, 0, 2, 3, 1])
        self.assertEqual(walk(2, ring), [0, 2, 0, 1, 3, 2, 3, 1, 0, 2])
        self.assertEqual(walk(3, ring), [0, 3, 1, 0, 2, 3, 2, 0, 1, 3])

    def test_three_by_three_from_corner_and_middle(self):
        garden = open_garden(3, 3)
        self.assertEqual(
            walk(0, garden),
            [0, 0, 1, 2, 5, 8, 7, 4, 1, 4, 5, 4, 3, 0, 3, 6, 7, 6, 3, 4, 7, 8, 5, 2, 1, 0],
        )
        self.assertEqual(
            walk(4, garden),
            [0, 4, 1, 2, 5, 8, 7, 4, 7, 6, 3, 0, 1, 0, 3, 4, 3, 6, 7, 8, 5, 4, 5, 2, 1, 4],
        )

    def test_ten_by_ten(self):
        self.assertEqual(walk(0, open_garden(10, 10)), [0] + [int(square) for square in ALL_OPEN.split()])


class NotAsWideAsHigh(unittest.TestCase):
    def test_wide(self):
        self.assertEqual(
            walk(0, open_garden(3, 2)),
            [0, 0, 1, 2, 5, 4, 1, 4, 3, 0, 3, 4, 5, 2, 1, 0],
        )

    def test_high(self):
        self.assertEqual(
            walk(0, open_garden(2, 3)),
            [0, 0, 1, 3, 5, 4, 2, 0, 2, 3, 2, 4, 5, 3, 1, 0],
        )

    def test_high_without_rings(self):
        garden = signs(TALL)
        self.assertEqual(walk(0, garden), [0, 0, 2, 3, 1, 3, 5, 3, 2, 0])
        self.assertEqual(walk(5, garden), [0, 5, 3, 1, 3, 2, 0, 2, 3, 5])
        self.assertEqual(walk(4, garden), [0, 4, 6, 7, 6, 4])
        self.assertEqual(walk(6, garden), [0, 6, 4, 6, 7, 6])


class SeveralRooms(unittest.TestCase):
    def assert_walk(self, squares):
        self.assertEqual(walk(squares[0], signs(ROOMS)), [0] + squares)

    def test_the_room_with_a_ring(self):
        self.assert_walk([0, 1, 5, 4, 0, 4, 5, 1, 0])
        self.assert_walk([1, 5, 4, 0, 1, 0, 4, 5, 1])
        self.assert_walk([4, 0, 1, 5, 4, 5, 1, 0, 4])
        self.assert_walk([5, 1, 0, 4, 5, 4, 0, 1, 5])

    def test_the_room_of_one_square(self):
        self.assert_walk([6])

    def test_the_room_without_rings(self):
        self.assert_walk([2, 3, 7, 11, 10, 9, 8, 9, 10, 11, 7, 3, 2])
        self.assert_walk([3, 7, 11, 10, 9, 8, 9, 10, 11, 7, 3, 2, 3])
        self.assert_walk([7, 3, 2, 3, 7, 11, 10, 9, 8, 9, 10, 11, 7])
        self.assert_walk([8, 9, 10, 11, 7, 3, 2, 3, 7, 11, 10, 9, 8])
        self.assert_walk([9, 10, 11, 7, 3, 2, 3, 7, 11, 10, 9, 8, 9])
        self.assert_walk([10, 11, 7, 3, 2, 3, 7, 11, 10, 9, 8, 9, 10])
        self.assert_walk([11, 7, 3, 2, 3, 7, 11, 10, 9, 8, 9, 10, 11])
