"""lies: whole answers that can be followed by hand, and D2, D3 and the walk's words over many gardens."""

import unittest

from tests.helper import (
    ONE_SQUARE, RING, ROOMS, TALL, Chances, beside, drawing, inner_sides, open_garden, room, signs, small_gardens,
    snake, some_squares, starts_of_all_kinds, thrown_gardens, told_thread, told_walk, turned,
)
from threadwalk.desk import at, lies, walk

TOO_FEW = [-5]
LARGEST = 4294967295


class ByHand(unittest.TestCase):
    def assert_lies(self, garden, each):
        """Each: the thread's squares for each number of steps, as a text."""
        threads = [[int(square) for square in squares.split()] for squares in each]
        start = threads[0][0]
        for steps, thread in enumerate(threads):
            self.assertEqual(lies(start, steps, garden), [0] + thread, steps)
        for more in (1, 2, 3, 100, 1000, LARGEST - len(threads) + 1):
            self.assertEqual(lies(start, len(threads) - 1 + more, garden), TOO_FEW)

    def test_one_square(self):
        self.assert_lies(signs(ONE_SQUARE), ["0"])

    def test_squares_that_are_rooms_by_themselves(self):
        for square in range(6):
            self.assert_lies(drawing(3, 2, []), [str(square)])
        self.assert_lies(signs(ROOMS), ["6"])

    def test_a_row(self):
        row = open_garden(4, 1)
        self.assert_lies(row, ["0", "0 1", "0 1 2", "0 1 2 3", "0 1 2", "0 1", "0"])
        self.assert_lies(row, ["2", "2 3", "2", "2 1", "2 1 0", "2 1", "2"])

    def test_a_column(self):
        column = open_garden(1, 4)
        self.assert_lies(column, ["0", "0 1", "0 1 2", "0 1 2 3", "0 1 2", "0 1", "0"])
        self.assert_lies(column, ["2", "2 1", "2 1 0", "2 1", "2", "2 3", "2"])

    def test_a_room_without_rings(self):
        self.assert_lies(
            signs(TALL),
            ["0", "0 2", "0 2 3", "0 2 3 1", "0 2 3", "0 2 3 5", "0 2 3", "0 2", "0"],
        )
        self.assert_lies(
            signs(TALL),
            ["5", "5 3", "5 3 1", "5 3", "5 3 2", "5 3 2 0", "5 3 2", "5 3", "5"],
        )

    def test_a_ring_with_the_start_come_to_again(self):
        self.assert_lies(
            signs(RING),
            ["0", "0 1", "0 1 3", "0 1 3 2", "0 1 3 2 0", "0 1 3 2", "0 1 3", "0 1", "0"],
        )
        self.assert_lies(
            signs(ROOMS),
            ["5", "5 1", "5 1 0", "5 1 0 4", "5 1 0 4 5", "5 1 0 4", "5 1 0", "5 1", "5"],
        )

    def test_a_ring_with_another_square_come_to_again(self):
        garden = signs("""
            +-+-+-+
            |     |
            +-+ + +
            | |   |
            +-+-+-+
        """)
        self.assert_lies(
            garden,
            ["0", "0 1", "0 1 2", "0 1 2 5", "0 1 2 5 4", "0 1 2 5 4 1",
             "0 1 2 5 4", "0 1 2 5", "0 1 2", "0 1", "0"],
        )

    def test_several_rings(self):
        self.assert_lies(open_garden(3, 3), [
            "4", "4 1", "4 1 2", "4 1 2 5", "4 1 2 5 8", "4 1 2 5 8 7",
            "4 1 2 5 8 7 4", "4 1 2 5 8 7",
            "4 1 2 5 8 7 6", "4 1 2 5 8 7 6 3", "4 1 2 5 8 7 6 3 0",
            "4 1 2 5 8 7 6 3 0 1", "4 1 2 5 8 7 6 3 0",
            "4 1 2 5 8 7 6 3", "4 1 2 5 8 7 6 3 4", "4 1 2 5 8 7 6 3",
            "4 1 2 5 8 7 6", "4 1 2 5 8 7", "4 1 2 5 8", "4 1 2 5",
            "4 1 2 5 4", "4 1 2 5", "4 1 2", "4 1", "4",
        ])

    def test_ten_by_ten(self):
        garden = open_garden(10, 10)
        there = list(range(10)) + list(range(19, 100, 10)) + list(range(98, 17, -10))
        for steps in range(28):
            self.assertEqual(lies(0, steps, garden), [0] + there[:steps + 1])
        self.assertEqual(lies(0, 28, garden), [0] + there + [8])
        self.assertEqual(lies(0, 29, garden), [0] + there)
        self.assertEqual(lies(0, 30, garden), [0] + there + [19])
        self.assertEqual(lies(0, 31, garden), [0] + there)
        self.assertEqual(lies(0, 32, garden), [0] + there + [17])
        self.assertEqual(lies(0, 33, garden), [0] + there + [17, 7])
        self.assertEqual(lies(0, 359, garden), [0, 0, 1])
        self.assertEqual(lies(0, 360, garden), [0, 0])
        self.assertEqual(lies(0, 361, garden), TOO_FEW)

    def test_the_longest_thread(self):
        way, garden = snake()
        for steps in range(100):
            self.assertEqual(lies(0, steps, garden), [0] + way[:steps + 1])
            self.assertEqual(lies(0, 198 - steps, garden), [0] + way[:steps + 1])
        self.assertEqual(lies(0, 199, garden), TOO_FEW)


def answers(wide, high, passages, start):
    """For each number of steps of the walk from a square: (the squares come to up to there, what lies tells)."""
    squares = told_walk(beside(wide, high, passages), start)
    bytes_drawn = drawing(wide, high, passages)
    for steps in range(len(squares)):
        yield squares[:steps + 1], lies(start, steps, bytes_drawn)


class AsTheWordsTellIt(unittest.TestCase):
    def assert_told(self, wide, high, passages, start):
        squares = [start]
        for squares, answer in answers(wide, high, passages, start):
            self.assertEqual(answer, [0] + told_thread(squares), (wide, high, passages, squares))
        bytes_drawn = drawing(wide, high, passages)
        for steps in (len(squares), len(squares) + 1, 2 * len(squares), 361, LARGEST):
            self.assertEqual(lies(start, steps, bytes_drawn), TOO_FEW, (wide, high, passages, start))

    def test_gardens_of_all_kinds(self):
        for wide, high, passages, start in starts_of_all_kinds(14):
            self.assert_told(wide, high, passages, start)


class AWayBack(unittest.TestCase):
    """D2."""

    def assert_way_back(self, wide, high, passages, start):
        around = beside(wide, high, passages)
        for squares, answer in answers(wide, high, passages, start):
            thread = answer[1:]
            self.assertEqual(answer[0], 0)
            self.assertEqual(thread[0], start)
            self.assertEqual(thread[-1], squares[-1])
            for here, there in zip(thread, thread[1:]):
                self.assertIn(there, around[here])
            ahead = thread[:-1]
            self.assertEqual(len(set(ahead)), len(ahead), thread)
            gone = [{here, there} for here, there in zip(squares, squares[1:])]
            for here, there in zip(thread, thread[1:]):
                self.assertEqual(gone.count({here, there}), 1)
            self.assertEqual(sum(gone.count(passage) == 1 for passage in gone), len(ahead))

    def test_all_small_gardens(self):
        for wide, high, passages in small_gardens(7):
            self.assert_way_back(wide, high, passages, 0)
            self.assert_way_back(wide, high, passages, wide * high // 2)

    def test_thrown_gardens(self):
        for wide, high, passages in thrown_gardens(15, 20):
            for start in some_squares(wide, high):
                self.assert_way_back(wide, high, passages, start)

    def test_ten_by_ten(self):
        self.assert_way_back(10, 10, range(len(inner_sides(10, 10))), 44)

    def test_the_last_square_is_there_twice_just_before_one_turns_back(self):
        any_again = False
        for wide, high, passages in thrown_gardens(16, 30):
            for start in some_squares(wide, high):
                told = list(answers(wide, high, passages, start))
                for (_, before), (squares, now), (_, then) in zip(told, told[1:], told[2:]):
                    again = now[-1] in now[1:-1]
                    any_again = any_again or again
                    self.assertEqual(again, len(now) > len(before) and squares[-1] in squares[:-1])
                    if again:
                        self.assertEqual(then, before)
        self.assertTrue(any_again)


class Promises(unittest.TestCase):
    def test_it_is_rolled_up_whole_at_the_end(self):
        for wide, high, passages in thrown_gardens(17, 200):
            around = beside(wide, high, passages)
            bytes_drawn = drawing(wide, high, passages)
            for start in some_squares(wide, high):
                steps = sum(len(around[square]) for square in room(around, start))
                self.assertEqual(lies(start, steps, bytes_drawn), [0, start])
                self.assertEqual(lies(start, steps + 1, bytes_drawn), TOO_FEW)

    def test_squares_not_yet_come_to_do_not_count(self):
        chances = Chances(18)
        for wide, high, passages in thrown_gardens(19, 40):
            start = chances.below(wide * high)
            for squares, answer in answers(wide, high, passages, start):
                other = turned(wide, high, passages, set(squares))
                self.assertEqual(lies(start, len(squares) - 1, other), answer)

    def test_it_tells_as_much_as_at_and_walk(self):
        chances = Chances(20)
        for wide, high, passages in thrown_gardens(21, 200):
            start = chances.below(wide * high)
            bytes_drawn = drawing(wide, high, passages)
            come_to = walk(start, bytes_drawn)
            steps = chances.below(len(come_to) - 1)
            thread = lies(start, steps, bytes_drawn)
            told = at(start, steps, bytes_drawn)
            self.assertEqual([thread[-1], len(thread) - 2], [come_to[steps + 1], told[2]])
