"""What the document promises over the whole program: D1 to D4 with all five functions, in gardens of all kinds."""

import unittest

from tests.helper import (
    Chances, beside, drawing, inner_sides, open_garden, room, small_gardens, some_squares, starts_of_all_kinds,
    thrown_gardens, thrown_trees, turned, ways,
)
from threadwalk.desk import at, finds, lies, next_side, walk

NOT_FOUND = [-5]
TOO_FEW = [-5]
NO_BEGINNING = [-9]


def gone_by_sides(wide, start, bytes_drawn):
    """The squares come to by the sides told alone, and each of these sides with the square that it was told at."""
    squares = [start]
    told = []
    while True:
        side = next_side(bytes_drawn, squares)[1]
        if side == 4 or len(told) > 360:
            return squares, told
        told.append((squares[-1], side))
        squares.append(squares[-1] + (-wide, 1, wide, -1)[side])


def sides_of(wide, found, around):
    """Each passage of a room at both its squares: (square, side)."""
    answer = []
    for square in found:
        for other in around[square]:
            level = square // wide == other // wide
            if other > square:
                answer.append((square, 1 if level else 2))
            else:
                answer.append((square, 3 if level else 0))
    return answer


class EachPassageOnceEachWay(unittest.TestCase):
    """D1."""

    def test_gardens_of_all_kinds(self):
        for wide, high, passages, start in starts_of_all_kinds(39):
            around = beside(wide, high, passages)
            found = room(around, start)
            bytes_drawn = drawing(wide, high, passages)
            squares, told = gone_by_sides(wide, start, bytes_drawn)
            self.assertEqual(sorted(told), sorted(sides_of(wide, found, around)))
            self.assertEqual(walk(start, bytes_drawn), [0] + squares)
            self.assertEqual([squares[0], squares[-1], set(squares)], [start, start, found])
            steps = sum(len(around[square]) for square in found)
            self.assertEqual(len(squares), steps + 1)
            self.assertEqual(at(start, steps, bytes_drawn), [0, start, 0, len(found)])
            self.assertEqual(lies(start, steps, bytes_drawn), [0, start])
            self.assertEqual(at(start, steps + 1, bytes_drawn), TOO_FEW)
            self.assertEqual(lies(start, steps + 1, bytes_drawn), TOO_FEW)
            self.assertEqual(next_side(bytes_drawn, squares + [start]), NO_BEGINNING)

    def test_the_largest_from_each_square(self):
        garden = open_garden(10, 10)
        for start in range(100):
            squares = walk(start, garden)[1:]
            self.assertEqual(len(set(zip(squares, squares[1:]))), 2 * len(inner_sides(10, 10)))
            self.assertEqual([len(squares), squares[0], squares[-1]], [361, start, start])
            self.assertEqual(set(squares), set(range(100)))


class AWayBack(unittest.TestCase):
    """D2, and that all five functions tell of one walk."""

    def assert_tell_of_one_walk(self, wide, high, passages, start):
        around = beside(wide, high, passages)
        bytes_drawn = drawing(wide, high, passages)
        squares = walk(start, bytes_drawn)[1:]
        for steps, here in enumerate(squares):
            thread = lies(start, steps, bytes_drawn)[1:]
            self.assertEqual([thread[0], thread[-1]], [start, here])
            self.assertEqual(len(set(thread[:-1])), len(thread) - 1)
            for one, other in zip(thread, thread[1:]):
                self.assertIn(other, around[one])
            seen = len(set(squares[:steps + 1]))
            self.assertEqual(at(start, steps, bytes_drawn), [0, here, len(thread) - 1, seen])
            self.assertEqual(finds(start, here, bytes_drawn), [0, squares.index(here)])
            side = next_side(bytes_drawn, squares[:steps + 1])[1]
            if steps + 1 == len(squares):
                self.assertEqual(side, 4)
            else:
                self.assertEqual(here + (-wide, 1, wide, -1)[side], squares[steps + 1])

    def test_all_small_gardens(self):
        for wide, high, passages in small_gardens(7):
            for start in {0, wide * high // 2, wide * high - 1}:
                self.assert_tell_of_one_walk(wide, high, passages, start)

    def test_thrown_gardens(self):
        chances = Chances(40)
        for wide, high, passages in thrown_gardens(41, 60):
            self.assert_tell_of_one_walk(wide, high, passages, chances.below(wide * high))

    def test_ten_by_ten(self):
        self.assert_tell_of_one_walk(10, 10, range(180), 55)


class GoesOnAlike(unittest.TestCase):
    """D3: whatever stands at no square come to is turned about."""

    def assert_alike(self, one, other, start, squares):
        """Both gardens are the same at these squares, with which the walk from the start begins."""
        steps = len(squares) - 1
        self.assertEqual(walk(start, one)[:steps + 2], [0] + squares)
        self.assertEqual(walk(start, other)[:steps + 3], walk(start, one)[:steps + 3])
        self.assertEqual(at(start, steps, other), at(start, steps, one))
        self.assertEqual(lies(start, steps, other), lies(start, steps, one))
        self.assertEqual(next_side(other, squares), next_side(one, squares))
        for square in set(squares):
            self.assertEqual(finds(start, square, other), finds(start, square, one))
        if next_side(one, squares) == [0, 4]:
            self.assertEqual(at(start, steps + 1, other), TOO_FEW)
        else:
            self.assertEqual(at(start, steps + 1, other), at(start, steps + 1, one))
            self.assertEqual(lies(start, steps + 1, other), lies(start, steps + 1, one))

    def test_at_some_squares_of_thrown_gardens(self):
        chances = Chances(42)
        turned_about = 0
        for wide, high, passages in thrown_gardens(43, 150):
            start = chances.below(wide * high)
            one = drawing(wide, high, passages)
            whole = walk(start, one)[1:]
            for count in sorted({1, 2, len(whole), 1 + chances.below(len(whole)), 1 + chances.below(len(whole))}):
                squares = whole[:count]
                other = turned(wide, high, passages, set(squares))
                turned_about += other != one
                self.assert_alike(one, other, start, squares)
        self.assertGreater(turned_about, 100)

    def test_other_rooms_do_not_count(self):
        turned_about = 0
        for wide, high, passages in thrown_gardens(44, 60):
            one = drawing(wide, high, passages)
            for start in some_squares(wide, high):
                found = room(beside(wide, high, passages), start)
                other = turned(wide, high, passages, found)
                turned_about += other != one
                self.assert_alike(one, other, start, walk(start, one)[1:])
                for square in set(range(wide * high)) - found:
                    self.assertEqual(finds(start, square, other), NOT_FOUND)
        self.assertGreater(turned_about, 10)


class FindsWhatIsInItsRoom(unittest.TestCase):
    """D4."""

    def test_just_what_walk_comes_to(self):
        for wide, high, passages in thrown_gardens(45, 60):
            bytes_drawn = drawing(wide, high, passages)
            for start in some_squares(wide, high):
                come_to = walk(start, bytes_drawn)[1:]
                for square in range(wide * high):
                    there = finds(start, square, bytes_drawn)
                    self.assertEqual(there == NOT_FOUND, square not in come_to)
                    self.assertEqual(there[0] == 0, square in come_to)
                    self.assertEqual(there[0], finds(square, start, bytes_drawn)[0])

    def test_the_thread_then_is_the_only_way_without_rings(self):
        chances = Chances(46)
        for wide, high, passages in thrown_trees(47, 60):
            around = beside(wide, high, passages)
            bytes_drawn = drawing(wide, high, passages)
            start = chances.below(wide * high)
            squares = walk(start, bytes_drawn)[1:]
            for square in range(wide * high):
                steps = finds(start, square, bytes_drawn)[1]
                thread = lies(start, steps, bytes_drawn)[1:]
                self.assertEqual([thread], ways(around, start, square))
                self.assertEqual(at(start, steps, bytes_drawn)[1:3], [square, len(thread) - 1])
                self.assertEqual(next_side(bytes_drawn, squares[:steps + 1])[0], 0)
