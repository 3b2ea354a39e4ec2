"""How walk is called: what is handed in stays, nothing is kept, nothing is printed, nothing nests deep."""

import contextlib
import inspect
import io
import sys
import unittest

from tests.helper import drawing, inner_sides, open_garden, signs, thrown_gardens
from threadwalk import desk
from threadwalk.desk import walk


class Watched(list):
    """A list that lets nobody change it."""

    def refuse(self, *given, **named):
        raise AssertionError("the list handed in was changed")

    __setitem__ = __delitem__ = __iadd__ = __imul__ = refuse
    append = clear = extend = insert = pop = remove = reverse = sort = refuse


def calls():
    """Calls of all kinds, answered and refused: (s, garden)."""
    gardens = [drawing(wide, high, passages) for wide, high, passages in thrown_gardens(7, 40)]
    gardens += [open_garden(10, 10), [], [0] * 1025, open_garden(3, 3)[:-1]]
    return [(s, garden) for garden in gardens for s in (0, 7, 4294967295)]


class Interface(unittest.TestCase):
    def test_its_arguments(self):
        self.assertEqual(list(inspect.signature(desk.walk).parameters), ["s", "garden"])
        self.assertEqual(walk(s=1, garden=open_garden(2, 1)), [0, 1, 0, 1])

    def test_it_gives_back_a_list_of_whole_numbers(self):
        for s, garden in calls():
            answer = walk(s, garden)
            self.assertIs(type(answer), list)
            self.assertEqual({type(number) for number in answer}, {int})
            if answer[0] != 0:
                self.assertEqual(len(answer), 1)

    def test_the_list_handed_in_is_the_same_behind_the_call(self):
        for s, garden in calls():
            before = list(garden)
            walk(s, garden)
            self.assertEqual(garden, before)

    def test_the_list_handed_in_is_not_changed_for_a_while(self):
        for s, garden in calls():
            self.assertEqual(walk(s, Watched(garden)), walk(s, garden))

    def test_a_second_call_answers_the_same(self):
        first = [walk(s, garden) for s, garden in calls()]
        for s, garden in reversed(calls()):
            self.assertEqual(walk(s, garden), walk(s, garden))
        self.assertEqual([walk(s, garden) for s, garden in calls()], first)

    def test_answers_are_lists_of_their_own(self):
        for s, garden in calls():
            first = walk(s, garden)
            kept = list(first)
            first.clear()
            self.assertEqual(walk(s, garden), kept)

    def test_a_garden_changed_between_calls_is_read_anew(self):
        garden = signs("+-+-+\n|   |\n+-+-+")
        self.assertEqual(walk(0, garden), [0, 0, 1, 0])
        garden[8] = ord("|")
        self.assertEqual(walk(0, garden), [0, 0])
        garden[8] = ord("x")
        self.assertEqual(walk(0, garden), [-6])

    def test_it_prints_nothing(self):
        printed = io.StringIO()
        with contextlib.redirect_stdout(printed), contextlib.redirect_stderr(printed):
            for s, garden in calls():
                walk(s, garden)
        self.assertEqual(printed.getvalue(), "")

    def test_the_longest_thread_needs_few_calls_within_one_another(self):
        rows = [list(range(10 * y, 10 * y + 10)) for y in range(10)]
        snake = [square for y, row in enumerate(rows) for square in (row if y % 2 == 0 else row[::-1])]
        joined = {(min(pair), max(pair)) for pair in zip(snake, snake[1:])}
        passages = [number for number, pair in enumerate(inner_sides(10, 10)) if pair in joined]
        garden = drawing(10, 10, passages)
        limit = sys.getrecursionlimit()
        sys.setrecursionlimit(len(inspect.stack()) + 30)
        try:
            answer = walk(0, garden)
        finally:
            sys.setrecursionlimit(limit)
        self.assertEqual(answer, [0] + snake + snake[-2::-1])
