"""How calls are made: what is handed in stays, nothing is kept, nothing is printed, nothing nests deep."""

import contextlib
import inspect
import io
import sys
import unittest

from tests.helper import drawing, open_garden, signs, snake, thrown_gardens
from threadwalk.desk import at, finds, lies, walk

LARGEST = 4294967295

ARGUMENTS = (
    (walk, ["s", "garden"]),
    (at, ["s", "i", "garden"]),
    (lies, ["s", "i", "garden"]),
    (finds, ["s", "u", "garden"]),
)


class Watched(list):
    """A list that lets nobody change it."""

    def refuse(self, *given, **named):
        raise AssertionError("the list handed in was changed")

    __setitem__ = __delitem__ = __iadd__ = __imul__ = refuse
    append = clear = extend = insert = pop = remove = reverse = sort = refuse


def calls():
    """Calls of all kinds, answered and refused: (function, numbers handed in ahead, garden)."""
    gardens = [drawing(wide, high, passages) for wide, high, passages in thrown_gardens(7, 40)]
    gardens += [open_garden(10, 10), [], [0] * 1025, [0] * 4000, open_garden(3, 3)[:-1]]
    numbers = []
    for s in (0, 7, LARGEST):
        numbers.append((walk, (s,)))
        numbers += [(call, (s, number)) for call in (at, lies, finds) for number in (0, 1, 6, 20, LARGEST)]
    return [(call, ahead, garden) for garden in gardens for call, ahead in numbers]


class Interface(unittest.TestCase):
    def test_their_arguments(self):
        for call, names in ARGUMENTS:
            self.assertEqual(list(inspect.signature(call).parameters), names)

    def test_their_arguments_by_name(self):
        self.assertEqual(walk(s=1, garden=open_garden(2, 1)), [0, 1, 0, 1])
        self.assertEqual(at(s=1, i=2, garden=open_garden(2, 1)), [0, 1, 0, 2])
        self.assertEqual(lies(s=1, i=1, garden=open_garden(2, 1)), [0, 1, 0])
        self.assertEqual(finds(s=2, u=3, garden=open_garden(4, 1)), [0, 1])
        self.assertEqual(finds(s=3, u=1, garden=open_garden(4, 1)), [0, 2])

    def test_they_give_back_a_list_of_whole_numbers(self):
        for call, ahead, garden in calls():
            answer = call(*ahead, garden)
            self.assertIs(type(answer), list)
            self.assertEqual({type(number) for number in answer}, {int})
            if answer[0] != 0:
                self.assertEqual(len(answer), 1)

    def test_the_list_handed_in_is_the_same_behind_the_call(self):
        for call, ahead, garden in calls():
            before = list(garden)
            call(*ahead, garden)
            self.assertEqual(garden, before)

    def test_the_list_handed_in_is_not_changed_for_a_while(self):
        for call, ahead, garden in calls():
            self.assertEqual(call(*ahead, Watched(garden)), call(*ahead, garden))

    def test_a_second_call_answers_the_same(self):
        first = [call(*ahead, garden) for call, ahead, garden in calls()]
        for call, ahead, garden in reversed(calls()):
            self.assertEqual(call(*ahead, garden), call(*ahead, garden))
        self.assertEqual([call(*ahead, garden) for call, ahead, garden in calls()], first)

    def test_answers_are_lists_of_their_own(self):
        for call, ahead, garden in calls():
            first = call(*ahead, garden)
            kept = list(first)
            first.clear()
            self.assertEqual(call(*ahead, garden), kept)

    def test_a_garden_changed_between_calls_is_read_anew(self):
        garden = signs("+-+-+\n|   |\n+-+-+")
        self.assertEqual(walk(0, garden), [0, 0, 1, 0])
        self.assertEqual(at(0, 1, garden), [0, 1, 1, 2])
        self.assertEqual(lies(0, 1, garden), [0, 0, 1])
        self.assertEqual(finds(0, 1, garden), [0, 1])
        garden[8] = ord("|")
        self.assertEqual(walk(0, garden), [0, 0])
        self.assertEqual(at(0, 1, garden), [-5])
        self.assertEqual(lies(0, 1, garden), [-5])
        self.assertEqual(finds(0, 1, garden), [-5])
        garden[8] = ord("x")
        self.assertEqual(walk(0, garden), [-6])
        self.assertEqual(at(0, 1, garden), [-6])
        self.assertEqual(lies(0, 1, garden), [-6])
        self.assertEqual(finds(0, 1, garden), [-6])

    def test_they_print_nothing(self):
        printed = io.StringIO()
        with contextlib.redirect_stdout(printed), contextlib.redirect_stderr(printed):
            for call, ahead, garden in calls():
                call(*ahead, garden)
        self.assertEqual(printed.getvalue(), "")

    def test_the_longest_thread_needs_few_calls_within_one_another(self):
        way, garden = snake()
        limit = sys.getrecursionlimit()
        sys.setrecursionlimit(len(inspect.stack()) + 30)
        try:
            answers = [walk(0, garden), at(0, 99, garden), lies(0, 99, garden), finds(0, 90, garden)]
            refusals = [at(0, LARGEST, garden), lies(0, LARGEST, garden)]
        finally:
            sys.setrecursionlimit(limit)
        self.assertEqual(answers, [[0] + way + way[-2::-1], [0, 90, 99, 100], [0] + way, [0, 99]])
        self.assertEqual(refusals, [[-5], [-5]])
