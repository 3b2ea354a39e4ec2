"""D1 and D3 of walk, and the walk's own words, over many gardens."""

import unittest

from tests.helper import (
    Chances, all_open, beside, drawing, room, small_gardens, some_squares, thrown_gardens, told_walk, turned,
)
from threadwalk.desk import walk


def walks(gardens):
    """Each garden from each of its squares: (passages beside each square, start, the answer)."""
    for wide, high, passages in gardens:
        around = beside(wide, high, passages)
        bytes_drawn = drawing(wide, high, passages)
        for start in range(wide * high):
            yield around, start, walk(start, bytes_drawn)


class EachPassageOnceEachWay(unittest.TestCase):
    def assert_promised(self, gardens):
        for around, start, answer in walks(gardens):
            squares = answer[1:]
            found = room(around, start)
            ways = sorted((square, other) for square in found for other in around[square])
            self.assertEqual(answer[0], 0)
            self.assertEqual(squares[0], start)
            self.assertEqual(squares[-1], start)
            self.assertEqual(sorted(zip(squares, squares[1:])), ways)
            self.assertEqual(set(squares), found)

    def test_all_small_gardens(self):
        self.assert_promised(small_gardens(10))

    def test_open_gardens_of_all_sizes(self):
        self.assert_promised(all_open())

    def test_thrown_gardens(self):
        self.assert_promised(thrown_gardens(1, 200))


class AsTheWordsTellIt(unittest.TestCase):
    def assert_told(self, gardens):
        for around, start, answer in walks(gardens):
            self.assertEqual(answer, [0] + told_walk(around, start))

    def test_all_small_gardens(self):
        self.assert_told(small_gardens(10))

    def test_thrown_gardens(self):
        self.assert_told(thrown_gardens(2, 12))

    def test_open_gardens_from_each_corner_and_the_middle(self):
        for wide, high, passages in all_open():
            around = beside(wide, high, passages)
            bytes_drawn = drawing(wide, high, passages)
            for start in some_squares(wide, high):
                self.assertEqual(walk(start, bytes_drawn), [0] + told_walk(around, start))


class GoesOnAlike(unittest.TestCase):
    """Whatever stands at no square come to is turned about; the walk can't have known it."""

    def test_other_rooms_do_not_count(self):
        any_turned = False
        for wide, high, passages in thrown_gardens(3, 200):
            around = beside(wide, high, passages)
            before = drawing(wide, high, passages)
            for start in range(wide * high):
                after = turned(wide, high, passages, room(around, start))
                any_turned = any_turned or after != before
                self.assertEqual(walk(start, after), walk(start, before))
        self.assertTrue(any_turned)

    def test_squares_not_yet_come_to_do_not_count(self):
        chances = Chances(4)
        for wide, high, passages in thrown_gardens(5, 60):
            start = chances.below(wide * high)
            answer = walk(start, drawing(wide, high, passages))
            for steps in range(len(answer) - 1):
                seen = set(answer[1:steps + 2])
                other = walk(start, turned(wide, high, passages, seen))
                self.assertEqual(other[:steps + 3], answer[:steps + 3])
