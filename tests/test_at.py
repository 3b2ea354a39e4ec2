"""at: whole answers that can be followed by hand, and D1, D2, D3 and the walk's words over many gardens."""

import unittest

from tests.helper import (
    ONE_SQUARE, RING, ROOMS, TALL, Chances, beside, drawing, open_garden, room, signs, snake, some_squares,
    starts_of_all_kinds, thrown_gardens, told_thread, told_walk, turned,
)
from threadwalk.desk import at

TOO_FEW = [-5]
LARGEST = 4294967295


class ByHand(unittest.TestCase):
    def assert_at(self, garden, each):
        """Each: the square, the passages of the thread and the squares seen, for each number of steps."""
        start = each[0][0]
        for steps, told in enumerate(each):
            self.assertEqual(at(start, steps, garden), [0] + list(told), steps)
        for more in (1, 2, 3, 100, 1000, LARGEST - len(each) + 1):
            self.assertEqual(at(start, len(each) - 1 + more, garden), TOO_FEW)

    def test_one_square(self):
        self.assert_at(signs(ONE_SQUARE), [(0, 0, 1)])

    def test_squares_that_are_rooms_by_themselves(self):
        for square in range(6):
            self.assert_at(drawing(3, 2, []), [(square, 0, 1)])
        self.assert_at(signs(ROOMS), [(6, 0, 1)])

    def test_a_row(self):
        row = open_garden(4, 1)
        self.assert_at(row, [(0, 0, 1), (1, 1, 2), (2, 2, 3), (3, 3, 4), (2, 2, 4), (1, 1, 4), (0, 0, 4)])
        self.assert_at(row, [(2, 0, 1), (3, 1, 2), (2, 0, 2), (1, 1, 3), (0, 2, 4), (1, 1, 4), (2, 0, 4)])

    def test_a_column(self):
        column = open_garden(1, 4)
        self.assert_at(column, [(0, 0, 1), (1, 1, 2), (2, 2, 3), (3, 3, 4), (2, 2, 4), (1, 1, 4), (0, 0, 4)])
        self.assert_at(column, [(2, 0, 1), (1, 1, 2), (0, 2, 3), (1, 1, 3), (2, 0, 3), (3, 1, 4), (2, 0, 4)])

    def test_a_room_without_rings(self):
        self.assert_at(signs(TALL), [
            (0, 0, 1), (2, 1, 2), (3, 2, 3), (1, 3, 4), (3, 2, 4), (5, 3, 5), (3, 2, 5), (2, 1, 5), (0, 0, 5),
        ])
        self.assert_at(signs(TALL), [
            (5, 0, 1), (3, 1, 2), (1, 2, 3), (3, 1, 3), (2, 2, 4), (0, 3, 5), (2, 2, 5), (3, 1, 5), (5, 0, 5),
        ])

    def test_a_ring(self):
        self.assert_at(signs(RING), [
            (0, 0, 1), (1, 1, 2), (3, 2, 3), (2, 3, 4), (0, 4, 4), (2, 3, 4), (3, 2, 4), (1, 1, 4), (0, 0, 4),
        ])
        self.assert_at(signs(RING), [
            (1, 0, 1), (3, 1, 2), (2, 2, 3), (0, 3, 4), (1, 4, 4), (0, 3, 4), (2, 2, 4), (3, 1, 4), (1, 0, 4),
        ])
        self.assert_at(signs(ROOMS), [
            (5, 0, 1), (1, 1, 2), (0, 2, 3), (4, 3, 4), (5, 4, 4), (4, 3, 4), (0, 2, 4), (1, 1, 4), (5, 0, 4),
        ])

    def test_several_rings(self):
        self.assert_at(open_garden(3, 3), [
            (4, 0, 1), (1, 1, 2), (2, 2, 3), (5, 3, 4), (8, 4, 5), (7, 5, 6), (4, 6, 6), (7, 5, 6), (6, 6, 7),
            (3, 7, 8), (0, 8, 9), (1, 9, 9), (0, 8, 9), (3, 7, 9), (4, 8, 9), (3, 7, 9), (6, 6, 9), (7, 5, 9),
            (8, 4, 9), (5, 3, 9), (4, 4, 9), (5, 3, 9), (2, 2, 9), (1, 1, 9), (4, 0, 9),
        ])

    def test_ten_by_ten(self):
        garden = open_garden(10, 10)
        self.assertEqual(at(0, 0, garden), [0, 0, 0, 1])
        self.assertEqual(at(0, 18, garden), [0, 99, 18, 19])
        self.assertEqual(at(0, 27, garden), [0, 18, 27, 28])
        self.assertEqual(at(0, 28, garden), [0, 8, 28, 28])
        self.assertEqual(at(0, 29, garden), [0, 18, 27, 28])
        self.assertEqual(at(0, 30, garden), [0, 19, 28, 28])
        self.assertEqual(at(0, 31, garden), [0, 18, 27, 28])
        self.assertEqual(at(0, 32, garden), [0, 17, 28, 29])
        self.assertEqual(at(0, 360, garden), [0, 0, 0, 100])
        self.assertEqual(at(0, 361, garden), TOO_FEW)
        self.assertEqual(at(99, 360, garden), [0, 99, 0, 100])
        self.assertEqual(at(99, 361, garden), TOO_FEW)

    def test_the_longest_thread(self):
        way, garden = snake()
        there = [(square, number, number + 1) for number, square in enumerate(way)]
        back = [(square, number, 100) for number, square in enumerate(way)]
        self.assert_at(garden, there + back[-2::-1])


def answers(wide, high, passages, start):
    """For each number of steps of the walk from a square: (the squares come to up to there, what at tells)."""
    squares = told_walk(beside(wide, high, passages), start)
    bytes_drawn = drawing(wide, high, passages)
    for steps in range(len(squares)):
        yield squares[:steps + 1], at(start, steps, bytes_drawn)


class AsTheWordsTellIt(unittest.TestCase):
    def assert_told(self, wide, high, passages, start):
        squares = [start]
        for squares, answer in answers(wide, high, passages, start):
            told = [0, squares[-1], len(told_thread(squares)) - 1, len(set(squares))]
            self.assertEqual(answer, told, (wide, high, passages, squares))
        bytes_drawn = drawing(wide, high, passages)
        for steps in (len(squares), len(squares) + 1, 2 * len(squares), 361, LARGEST):
            self.assertEqual(at(start, steps, bytes_drawn), TOO_FEW, (wide, high, passages, start))

    def test_gardens_of_all_kinds(self):
        for wide, high, passages, start in starts_of_all_kinds(8):
            self.assert_told(wide, high, passages, start)


class Promises(unittest.TestCase):
    def test_it_ends_where_it_began_behind_each_passage_gone_each_way(self):
        for wide, high, passages in thrown_gardens(9, 200):
            around = beside(wide, high, passages)
            bytes_drawn = drawing(wide, high, passages)
            for start in some_squares(wide, high):
                found = room(around, start)
                steps = sum(len(around[square]) for square in found)
                self.assertEqual(at(start, steps, bytes_drawn), [0, start, 0, len(found)])
                self.assertEqual(at(start, steps + 1, bytes_drawn), TOO_FEW)

    def test_each_step_unrolls_or_rolls_up_one_passage(self):
        for wide, high, passages in thrown_gardens(10, 20):
            for start in some_squares(wide, high):
                before = None
                for _, answer in answers(wide, high, passages, start):
                    if before:
                        self.assertEqual(abs(answer[2] - before[2]), 1)
                        self.assertIn(answer[3] - before[3], (0, 1))
                    before = answer

    def test_no_square_is_twice_on_the_thread_but_perhaps_the_last(self):
        for wide, high, passages in thrown_gardens(11, 20):
            for start in some_squares(wide, high):
                for squares, answer in answers(wide, high, passages, start):
                    come_to_again = squares[-1] in squares[:-1]
                    self.assertLessEqual(answer[2], answer[3] if come_to_again else answer[3] - 1)

    def test_squares_not_yet_come_to_do_not_count(self):
        chances = Chances(12)
        for wide, high, passages in thrown_gardens(13, 40):
            start = chances.below(wide * high)
            for squares, answer in answers(wide, high, passages, start):
                other = turned(wide, high, passages, set(squares))
                self.assertEqual(at(start, len(squares) - 1, other), answer)
