"""finds: whole answers that can be followed by hand, and D3, D4 and the walk's words over many gardens."""

import unittest

from tests.helper import (
    ONE_SQUARE, RING, ROOMS, TALL, Chances, beside, drawing, inner_sides, open_garden, room, signs, small_gardens,
    snake, some_squares, starts_of_all_kinds, thrown_gardens, thrown_trees, told_walk, turned, ways,
)
from threadwalk.desk import at, finds, lies, walk

NEVER = [-5]
NO_SQUARE = [-4]
LARGEST = 4294967295


class ByHand(unittest.TestCase):
    def assert_finds(self, garden, start, each):
        """Each: for each square of the garden the steps, or - where it is never come to, as a text."""
        for square, steps in enumerate(each.split()):
            told = NEVER if steps == "-" else [0, int(steps)]
            self.assertEqual(finds(start, square, garden), told, (start, square))
        self.assertEqual(finds(start, len(each.split()), garden), NO_SQUARE)

    def test_one_square(self):
        self.assert_finds(signs(ONE_SQUARE), 0, "0")

    def test_squares_that_are_rooms_by_themselves(self):
        for square in range(6):
            self.assert_finds(drawing(3, 2, []), square, " ".join("-" * square + "0" + "-" * (5 - square)))

    def test_a_row(self):
        row = open_garden(4, 1)
        self.assert_finds(row, 0, "0 1 2 3")
        self.assert_finds(row, 1, "5 0 1 2")
        self.assert_finds(row, 2, "4 3 0 1")
        self.assert_finds(row, 3, "3 2 1 0")

    def test_a_column(self):
        column = open_garden(1, 4)
        self.assert_finds(column, 0, "0 1 2 3")
        self.assert_finds(column, 1, "1 0 3 4")
        self.assert_finds(column, 2, "2 1 0 5")
        self.assert_finds(column, 3, "3 2 1 0")

    def test_a_row_and_a_column_of_several_rooms(self):
        row = signs("+-+-+-+-+\n|   |   |\n+-+-+-+-+")
        self.assert_finds(row, 0, "0 1 - -")
        self.assert_finds(row, 3, "- - 1 0")
        column = signs("+-+\n| |\n+-+\n| |\n+ +\n| |\n+-+")
        self.assert_finds(column, 0, "0 - -")
        self.assert_finds(column, 2, "- 1 0")

    def test_a_room_without_rings(self):
        tall = signs(TALL)
        self.assert_finds(tall, 0, "0 3 1 2 - 5 - -")
        self.assert_finds(tall, 5, "5 2 4 1 - 0 - -")
        self.assert_finds(tall, 3, "6 1 5 0 - 3 - -")
        self.assert_finds(tall, 6, "- - - - 1 - 0 3")

    def test_a_ring(self):
        ring = signs(RING)
        self.assert_finds(ring, 0, "0 1 3 2")
        self.assert_finds(ring, 1, "3 0 2 1")
        self.assert_finds(ring, 2, "1 2 0 3")
        self.assert_finds(ring, 3, "2 1 3 0")

    def test_several_rooms(self):
        rooms = signs(ROOMS)
        self.assert_finds(rooms, 0, "0 1 - - 3 2 - - - - - -")
        self.assert_finds(rooms, 6, "- - - - - - 0 - - - - -")
        self.assert_finds(rooms, 2, "- - 0 1 - - - 2 6 5 4 3")
        self.assert_finds(rooms, 7, "- - 2 1 - - - 0 8 7 6 5")

    def test_several_rings(self):
        # From the middle: 4 1 2 5 8 7 4 7 6 3 0 and so on; 7 and 4 are come to again.
        self.assert_finds(open_garden(3, 3), 4, "10 1 2 9 0 3 8 5 4")
        # From the corner: 0 1 2 5 8 7 4 1 4 5 4 3 0 3 6 and so on.
        self.assert_finds(open_garden(3, 3), 0, "0 1 2 11 6 3 14 5 4")

    def test_ten_by_ten(self):
        garden = open_garden(10, 10)
        # 0 to 9, down to 99, 98 up to 18, 8 and back, 19 and back, 17, 7 and back, 27, 28 and back, 37 ...
        told = {0: 0, 1: 1, 9: 9, 19: 10, 99: 18, 98: 19, 18: 27, 8: 8, 17: 32, 27: 35, 37: 38, 97: 56, 96: 59}
        for square, steps in told.items():
            self.assertEqual(finds(0, square, garden), [0, steps], square)
        self.assertEqual(finds(0, 100, garden), NO_SQUARE)

    def test_the_longest_thread(self):
        way, garden = snake()
        for steps, square in enumerate(way):
            self.assertEqual(finds(0, square, garden), [0, steps])
            self.assertEqual(finds(90, square, garden), [0, 99 - steps])


class AsTheWordsTellIt(unittest.TestCase):
    def test_each_two_squares_of_gardens_of_all_kinds(self):
        for wide, high, passages, start in starts_of_all_kinds(22):
            squares = told_walk(beside(wide, high, passages), start)
            bytes_drawn = drawing(wide, high, passages)
            for square in range(wide * high):
                told = [0, squares.index(square)] if square in squares else NEVER
                self.assertEqual(finds(start, square, bytes_drawn), told, (wide, high, passages, start, square))


class AgreesWithTheOtherCalls(unittest.TestCase):
    def each_found(self, seed):
        """Gardens, two squares of one room, and the steps: (drawing, start, square, steps)."""
        chances = Chances(seed)
        for wide, high, passages in thrown_gardens(seed + 1, 100):
            start = chances.below(wide * high)
            bytes_drawn = drawing(wide, high, passages)
            for square in sorted(room(beside(wide, high, passages), start)):
                answer = finds(start, square, bytes_drawn)
                self.assertEqual([len(answer), answer[0]], [2, 0])
                yield bytes_drawn, start, square, answer[1]

    def test_the_square_stands_there_in_walk_for_the_first_time(self):
        for bytes_drawn, start, square, steps in self.each_found(23):
            squares = walk(start, bytes_drawn)[1:]
            self.assertEqual(squares[steps], square)
            self.assertNotIn(square, squares[:steps])

    def test_each_two_squares_of_ten_by_ten_as_walk_tells_them(self):
        garden = open_garden(10, 10)
        for start in range(100):
            squares = walk(start, garden)[1:]
            for square in range(100):
                self.assertEqual(finds(start, square, garden), [0, squares.index(square)])

    def test_at_tells_the_square_and_one_more_seen(self):
        for bytes_drawn, start, square, steps in self.each_found(25):
            told = at(start, steps, bytes_drawn)
            self.assertEqual(told[1], square)
            if steps > 0:
                before = at(start, steps - 1, bytes_drawn)
                self.assertEqual([told[2], told[3]], [before[2] + 1, before[3] + 1])

    def test_lies_ends_with_the_square_and_has_none_twice(self):
        for bytes_drawn, start, square, steps in self.each_found(27):
            thread = lies(start, steps, bytes_drawn)[1:]
            self.assertEqual([thread[0], thread[-1]], [start, square])
            self.assertEqual(len(set(thread)), len(thread))


class FindsWhatIsInItsRoom(unittest.TestCase):
    """D4."""

    def assert_just_its_room(self, wide, high, passages):
        around = beside(wide, high, passages)
        bytes_drawn = drawing(wide, high, passages)
        for start in range(wide * high):
            found = room(around, start)
            for square in range(wide * high):
                answer = finds(start, square, bytes_drawn)
                self.assertEqual(answer[0] == 0, square in found, (wide, high, passages, start, square))
                if square not in found:
                    self.assertEqual(answer, NEVER)
            for beyond in (wide * high, wide * high + 1, LARGEST):
                self.assertEqual(finds(start, beyond, bytes_drawn), NO_SQUARE)

    def test_all_small_gardens(self):
        for wide, high, passages in small_gardens(7):
            self.assert_just_its_room(wide, high, passages)

    def test_thrown_gardens(self):
        for wide, high, passages in thrown_gardens(29, 12):
            self.assert_just_its_room(wide, high, passages)

    def assert_only_way(self, wide, high, passages, starts):
        around = beside(wide, high, passages)
        bytes_drawn = drawing(wide, high, passages)
        for start in starts:
            for square in range(wide * high):
                steps = finds(start, square, bytes_drawn)[1]
                thread = lies(start, steps, bytes_drawn)[1:]
                self.assertEqual(ways(around, start, square), [thread], (wide, high, passages))

    def test_the_only_way_in_all_small_gardens_of_one_room_without_rings(self):
        for wide, high, passages in small_gardens(7):
            one_room = len(room(beside(wide, high, passages), 0)) == wide * high
            if one_room and len(passages) == wide * high - 1:
                self.assert_only_way(wide, high, passages, range(wide * high))

    def test_the_only_way_in_thrown_gardens_of_one_room_without_rings(self):
        for wide, high, passages in thrown_trees(30, 40):
            self.assertEqual(len(passages), wide * high - 1)
            self.assert_only_way(wide, high, passages, some_squares(wide, high))

    def test_the_only_way_along_the_longest_thread(self):
        way, garden = snake()
        for start, end in ((0, 90), (90, 0), (44, 0), (0, 44)):
            between = way[way.index(start):way.index(end) + 1] or way[way.index(end):way.index(start) + 1][::-1]
            self.assertEqual(lies(start, finds(start, end, garden)[1], garden), [0] + between)


class Promises(unittest.TestCase):
    def test_squares_not_yet_come_to_do_not_count(self):
        """D3."""
        any_turned = False
        for wide, high, passages in thrown_gardens(31, 40):
            for start in some_squares(wide, high):
                squares = told_walk(beside(wide, high, passages), start)
                bytes_drawn = drawing(wide, high, passages)
                for square in sorted(set(squares)):
                    steps = squares.index(square)
                    other = turned(wide, high, passages, set(squares[:steps + 1]))
                    any_turned = any_turned or other != bytes_drawn
                    self.assertEqual(finds(start, square, other), [0, steps])
        self.assertTrue(any_turned)

    def test_it_finds_the_last_square_of_the_largest_gardens_too(self):
        garden = open_garden(10, 10)
        last = max(finds(44, square, garden)[1] for square in range(100))
        squares = walk(44, garden)[1:]
        self.assertEqual(len(set(squares[:last])), 99)
        self.assertEqual(len(set(squares[:last + 1])), 100)
        self.assertEqual(len(squares), 2 * len(inner_sides(10, 10)) + 1)
