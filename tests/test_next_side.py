"""next_side: whole answers that can be followed by hand, -9, D1, D3 and the walk's words over many gardens."""

import itertools
import unittest

from tests.helper import (
    ONE_SQUARE, RING, ROOMS, TALL, Chances, beside, drawing, inner_sides, open_garden, signs, small_gardens, snake,
    some_squares, starts_of_all_kinds, thrown_gardens, told_side, told_walk, turned,
)
from threadwalk.desk import next_side, walk

NO_BEGINNING = [-9]
LARGEST = 4294967295


class ByHand(unittest.TestCase):
    def assert_sides(self, garden, squares, sides):
        """A whole walk, and the side that it goes on by behind each of its squares, as texts."""
        squares = [int(square) for square in squares.split()]
        sides = [int(side) for side in sides.split()]
        self.assertEqual(len(sides), len(squares))
        for count, side in enumerate(sides, 1):
            self.assertEqual(next_side(garden, squares[:count]), [0, side], squares[:count])

    def test_one_square(self):
        self.assert_sides(signs(ONE_SQUARE), "0", "4")

    def test_squares_that_are_rooms_by_themselves(self):
        for square in range(6):
            self.assert_sides(drawing(3, 2, []), str(square), "4")
        self.assert_sides(signs(ROOMS), "6", "4")

    def test_a_row(self):
        row = open_garden(4, 1)
        self.assert_sides(row, "0 1 2 3 2 1 0", "1 1 1 3 3 3 4")
        self.assert_sides(row, "2 3 2 1 0 1 2", "1 3 3 3 1 1 4")
        self.assert_sides(row, "3 2 1 0 1 2 3", "3 3 3 1 1 1 4")

    def test_a_column(self):
        column = open_garden(1, 4)
        self.assert_sides(column, "0 1 2 3 2 1 0", "2 2 2 0 0 0 4")
        self.assert_sides(column, "2 1 0 1 2 3 2", "0 0 2 2 2 0 4")
        self.assert_sides(column, "3 2 1 0 1 2 3", "0 0 0 2 2 2 4")

    def test_a_row_and_a_column_of_several_rooms(self):
        row = signs("+-+-+-+-+\n|   |   |\n+-+-+-+-+")
        self.assert_sides(row, "1 0 1", "3 1 4")
        self.assert_sides(row, "2 3 2", "1 3 4")
        column = signs("+-+\n| |\n+ +\n| |\n+-+\n| |\n+ +\n| |\n+-+")
        self.assert_sides(column, "1 0 1", "0 2 4")
        self.assert_sides(column, "2 3 2", "2 0 4")

    def test_a_room_without_rings(self):
        self.assert_sides(signs(TALL), "0 2 3 1 3 5 3 2 0", "2 1 0 2 2 0 3 0 4")
        self.assert_sides(signs(TALL), "5 3 1 3 2 0 2 3 5", "0 0 2 3 0 2 1 2 4")
        self.assert_sides(signs(TALL), "6 4 6 7 6", "0 2 1 3 4")

    def test_a_ring(self):
        self.assert_sides(signs(RING), "0 1 3 2 0 2 3 1 0", "1 2 3 0 2 1 0 3 4")
        self.assert_sides(signs(RING), "1 3 2 0 1 0 2 3 1", "2 3 0 1 3 2 1 0 4")
        self.assert_sides(signs(RING), "2 0 1 3 2 3 1 0 2", "0 1 2 3 1 0 3 2 4")
        self.assert_sides(signs(RING), "3 1 0 2 3 2 0 1 3", "0 3 2 1 3 0 1 2 4")

    def test_several_rooms(self):
        self.assert_sides(signs(ROOMS), "5 1 0 4 5 4 0 1 5", "0 3 2 1 3 0 1 2 4")
        self.assert_sides(signs(ROOMS), "9 10 11 7 3 2 3 7 11 10 9 8 9", "1 1 0 0 3 1 2 2 3 3 3 1 4")

    def test_several_rings(self):
        self.assert_sides(
            open_garden(3, 3),
            "4 1 2 5 8 7 4 7 6 3 0 1 0 3 4 3 6 7 8 5 4 5 2 1 4",
            "0 1 2 2 3 0 2 3 0 0 1 3 2 1 3 2 1 1 0 3 1 0 3 2 4",
        )

    def test_ten_by_ten(self):
        garden = open_garden(10, 10)
        squares = list(range(10)) + list(range(19, 100, 10)) + list(range(98, 7, -10)) + [18, 19, 18, 17, 7, 17, 27]
        sides = [1] * 9 + [2] * 9 + [3] + [0] * 9 + [2, 1, 3, 3, 0, 2, 2, 1]
        self.assertEqual(len(sides), len(squares))
        for count, side in enumerate(sides, 1):
            self.assertEqual(next_side(garden, squares[:count]), [0, side], squares[:count])

    def test_the_longest_thread(self):
        way, garden = snake()
        squares = way + way[-2::-1]
        sides = ([1] * 9 + [2] + [3] * 9 + [2]) * 5
        back = ([1] * 9 + [0] + [3] * 9 + [0]) * 5
        sides = sides[:-1] + back[:-1] + [4]
        for count, side in enumerate(sides, 1):
            self.assertEqual(next_side(garden, squares[:count]), [0, side], squares[:count])
        self.assertEqual(next_side(garden, squares + [0]), NO_BEGINNING)


class AsTheWordsTellIt(unittest.TestCase):
    def test_each_beginning_in_gardens_of_all_kinds(self):
        for wide, high, passages, start in starts_of_all_kinds(33):
            around = beside(wide, high, passages)
            squares = told_walk(around, start)
            bytes_drawn = drawing(wide, high, passages)
            for count in range(1, len(squares) + 1):
                told = told_side(wide, around, squares[:count])
                self.assertEqual(next_side(bytes_drawn, squares[:count]), [0, told], (wide, high, squares[:count]))

    def test_each_row_of_few_squares_in_the_smallest_gardens(self):
        for wide, high, passages in small_gardens(4):
            around = beside(wide, high, passages)
            bytes_drawn = drawing(wide, high, passages)
            walks = [told_walk(around, start) for start in range(wide * high)]
            for count in range(5):
                for row in itertools.product(range(wide * high + 1), repeat=count):
                    squares = list(row)
                    told = NO_BEGINNING
                    if squares and squares in [squares_gone[:count] for squares_gone in walks]:
                        told = [0, told_side(wide, around, squares)]
                    self.assertEqual(next_side(bytes_drawn, squares), told, (wide, high, passages, squares))


def beyond(wide, square, side):
    """The square that lies at a square's side."""
    return square + (-wide, 1, wide, -1)[side]


class LeadsOn(unittest.TestCase):
    def assert_leads(self, wide, high, passages, start):
        """Goes just by the sides told, until it is ended: every passage told of is one, and walk is gone whole."""
        around = beside(wide, high, passages)
        bytes_drawn = drawing(wide, high, passages)
        squares = [start]
        answer = next_side(bytes_drawn, squares)
        while answer != [0, 4]:
            then = beyond(wide, squares[-1], answer[1])
            self.assertIn(then, around[squares[-1]])
            squares.append(then)
            self.assertLessEqual(len(squares), 361)
            answer = next_side(bytes_drawn, squares)
        self.assertEqual([0] + squares, walk(start, bytes_drawn))

    def test_small_gardens(self):
        for wide, high, passages in small_gardens(7):
            for start in range(wide * high):
                self.assert_leads(wide, high, passages, start)

    def test_thrown_gardens(self):
        for wide, high, passages in thrown_gardens(34, 30):
            for start in some_squares(wide, high):
                self.assert_leads(wide, high, passages, start)

    def test_ten_by_ten(self):
        for start in (0, 44, 99):
            self.assert_leads(10, 10, range(len(inner_sides(10, 10))), start)

    def test_squares_not_yet_come_to_do_not_count(self):
        """D3."""
        any_turned = False
        for wide, high, passages in thrown_gardens(35, 40):
            bytes_drawn = drawing(wide, high, passages)
            for start in some_squares(wide, high):
                squares = walk(start, bytes_drawn)[1:]
                for count in range(1, len(squares) + 1):
                    other = turned(wide, high, passages, set(squares[:count]))
                    any_turned = any_turned or other != bytes_drawn
                    answer = next_side(bytes_drawn, squares[:count])
                    self.assertEqual(next_side(other, squares[:count]), answer)
        self.assertTrue(any_turned)


class NoBeginning(unittest.TestCase):
    def assert_no_beginning(self, garden, squares):
        self.assertEqual(next_side(garden, squares), NO_BEGINNING, squares)

    def test_no_squares(self):
        for garden in (signs(ONE_SQUARE), signs(ROOMS), open_garden(10, 10), drawing(10, 10, [])):
            self.assert_no_beginning(garden, [])

    def test_the_first_is_no_square_of_the_garden(self):
        for wide, high in ((1, 1), (1, 10), (10, 1), (4, 3), (3, 4), (10, 10)):
            garden = open_garden(wide, high)
            count = wide * high
            self.assertEqual(next_side(garden, [count - 1])[0], 0)
            for first in (count, count + 1, 1024, LARGEST - 1, LARGEST):
                self.assert_no_beginning(garden, [first])
                self.assert_no_beginning(garden, [first, 0])
                self.assert_no_beginning(garden, [first, first - 1])
                self.assert_no_beginning(garden, [first] * 1000)

    def test_one_along_the_row_differs(self):
        chances = Chances(36)
        for wide, high, passages in thrown_gardens(37, 60) + [(10, 10, range(180))]:
            count = wide * high
            bytes_drawn = drawing(wide, high, passages)
            squares = walk(chances.below(count), bytes_drawn)[1:]
            for place in range(1, len(squares)):
                for other in (chances.below(count), count, LARGEST, squares[place - 1]):
                    if other != squares[place]:
                        made = squares[:place] + [other]
                        self.assert_no_beginning(bytes_drawn, made)
                        self.assert_no_beginning(bytes_drawn, made + squares[place + 1:])

    def test_one_left_out_or_there_twice(self):
        for garden in (signs(RING), signs(TALL), open_garden(4, 1), open_garden(1, 4), open_garden(10, 10)):
            squares = walk(0, garden)[1:]
            for place in range(len(squares)):
                self.assert_no_beginning(garden, squares[:place + 1] + squares[place:])
            for place in range(1, len(squares) - 1):
                self.assert_no_beginning(garden, squares[:place] + squares[place + 1:])

    def test_a_way_by_passages_that_the_walk_does_not_go(self):
        ring = signs(RING)
        self.assertEqual(next_side(ring, [0, 1, 3, 2, 0, 2]), [0, 1])
        self.assert_no_beginning(ring, [0, 2])
        self.assert_no_beginning(ring, [0, 1, 0])
        self.assert_no_beginning(ring, [0, 1, 3, 2, 0, 1])
        self.assert_no_beginning(ring, [0, 1, 3, 2, 3])

    def test_through_a_hedge(self):
        self.assert_no_beginning(drawing(2, 1, []), [0, 1])
        self.assert_no_beginning(drawing(1, 2, []), [0, 1])
        self.assert_no_beginning(open_garden(2, 2), [1, 2])
        self.assert_no_beginning(signs(ROOMS), [5, 6])

    def test_behind_the_end_of_the_walk(self):
        for wide, high, passages, start in starts_of_all_kinds(38):
            bytes_drawn = drawing(wide, high, passages)
            squares = walk(start, bytes_drawn)[1:]
            self.assertEqual(next_side(bytes_drawn, squares), [0, 4])
            for more in ([start], squares[1:2], squares[1:], squares, [LARGEST], [start + 1]):
                if more:
                    self.assert_no_beginning(bytes_drawn, squares + more)

    def test_a_thousand_squares(self):
        for garden in (signs(ONE_SQUARE), signs(RING), open_garden(10, 10)):
            squares = walk(0, garden)[1:]
            self.assert_no_beginning(garden, (squares[:-1] * 1000)[:1000])
            self.assert_no_beginning(garden, [0] * 1000)
            self.assert_no_beginning(garden, [LARGEST] * 1000)
            self.assert_no_beginning(garden, squares + [LARGEST] * (1000 - len(squares)))
            self.assert_no_beginning(garden, list(range(1000)))
