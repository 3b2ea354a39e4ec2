"""How calls are made: what is handed in stays, nothing is kept, printed, read or imported, nothing nests deep."""

import contextlib
import inspect
import io
import pathlib
import subprocess
import sys
import unittest
from unittest import mock

import threadwalk.desk
import threadwalk.drawing
import threadwalk.garden
import threadwalk.walking
from tests.helper import drawing, open_garden, signs, snake, thrown_gardens
from threadwalk.desk import at, finds, lies, next_side, walk

TOP = pathlib.Path(__file__).resolve().parent.parent
MODULES = (threadwalk, threadwalk.desk, threadwalk.drawing, threadwalk.garden, threadwalk.walking)
LARGEST = 4294967295

ARGUMENTS = (
    (walk, ["s", "garden"]),
    (at, ["s", "i", "garden"]),
    (lies, ["s", "i", "garden"]),
    (finds, ["s", "u", "garden"]),
    (next_side, ["garden", "squares"]),
)

LOADS_AND_CALLS = r"""
import sys
before = set(sys.modules)
from threadwalk.desk import at, finds, lies, next_side, walk
garden = [ord(sign) for sign in "+-+-+\n|   |\n+-+-+\n"]
told = [walk(0, garden), at(0, 1, garden), lies(0, 1, garden), finds(0, 1, garden), next_side(garden, [0])]
others = sorted(set(sys.modules) - before)
assert told == [[0, 0, 1, 0], [0, 1, 1, 2], [0, 0, 1], [0, 1], [0, 1]], told
assert all(name.split(".")[0] == "threadwalk" for name in others), others
"""


class Watched(list):
    """A list that lets nobody change it."""

    def refuse(self, *given, **named):
        raise AssertionError("the list handed in was changed")

    __setitem__ = __delitem__ = __iadd__ = __imul__ = refuse
    append = clear = extend = insert = pop = remove = reverse = sort = refuse


def copied(given, kind):
    """What is handed in, each list as another of that kind."""
    return [kind(value) if isinstance(value, list) else value for value in given]


def calls():
    """Calls of all kinds, answered and refused: (function, all that is handed in)."""
    gardens = [drawing(wide, high, passages) for wide, high, passages in thrown_gardens(7, 40)]
    gardens += [open_garden(10, 10), [], [0] * 1025, [0] * 4000, open_garden(3, 3)[:-1]]
    answer = []
    for garden in gardens:
        for s in (0, 7, LARGEST):
            squares = walk(s, garden)[1:]
            rows = [[], squares[:1], squares[:2], squares[:7], squares, squares + [0], squares + [LARGEST] * 600]
            answer.append((walk, (s, garden)))
            answer += [(call, (s, other, garden)) for call in (at, lies, finds) for other in (0, 1, 6, 20, LARGEST)]
            answer += [(next_side, (garden, row)) for row in rows]
    return answer


def kept_at_the_top():
    """All that stands at the top of the package's files, as it is written out."""
    return [{name: repr(value) for name, value in vars(module).items()} for module in MODULES]


class Interface(unittest.TestCase):
    def test_their_arguments(self):
        for call, names in ARGUMENTS:
            self.assertEqual(list(inspect.signature(call).parameters), names)
            self.assertEqual([call.__module__, call.__defaults__], ["threadwalk.desk", None])

    def test_their_arguments_by_name(self):
        self.assertEqual(walk(s=1, garden=open_garden(2, 1)), [0, 1, 0, 1])
        self.assertEqual(at(s=1, i=2, garden=open_garden(2, 1)), [0, 1, 0, 2])
        self.assertEqual(lies(s=1, i=1, garden=open_garden(2, 1)), [0, 1, 0])
        self.assertEqual(finds(s=2, u=3, garden=open_garden(4, 1)), [0, 1])
        self.assertEqual(finds(s=3, u=1, garden=open_garden(4, 1)), [0, 2])
        self.assertEqual(next_side(garden=open_garden(4, 1), squares=[2, 3]), [0, 3])

    def test_they_give_back_a_list_of_whole_numbers(self):
        for call, given in calls():
            answer = call(*given)
            self.assertIs(type(answer), list)
            self.assertEqual({type(number) for number in answer}, {int})
            if answer[0] != 0:
                self.assertEqual(len(answer), 1)

    def test_they_tell_as_many_numbers_as_the_document(self):
        for call, given in calls():
            answer = call(*given)
            if answer[0] == 0 and call in (at, finds, next_side):
                self.assertEqual(len(answer), 4 if call is at else 2)

    def test_the_lists_handed_in_are_the_same_behind_the_call(self):
        for call, given in calls():
            before = copied(given, list)
            call(*given)
            self.assertEqual(list(given), before)

    def test_the_lists_handed_in_are_not_changed_for_a_while(self):
        for call, given in calls():
            self.assertEqual(call(*copied(given, Watched)), call(*given))

    def test_a_second_call_answers_the_same(self):
        first = [call(*given) for call, given in calls()]
        for call, given in reversed(calls()):
            self.assertEqual(call(*given), call(*given))
        self.assertEqual([call(*given) for call, given in calls()], first)

    def test_answers_are_lists_of_their_own(self):
        for call, given in calls():
            first = call(*given)
            kept = list(first)
            first.clear()
            self.assertEqual(call(*given), kept)

    def test_a_garden_changed_between_calls_is_read_anew(self):
        garden = signs("+-+-+\n|   |\n+-+-+")

        def told():
            return [walk(0, garden), at(0, 1, garden), lies(0, 1, garden), finds(0, 1, garden), next_side(garden, [0])]

        self.assertEqual(told(), [[0, 0, 1, 0], [0, 1, 1, 2], [0, 0, 1], [0, 1], [0, 1]])
        garden[8] = ord("|")
        self.assertEqual(told(), [[0, 0], [-5], [-5], [-5], [0, 4]])
        garden[8] = ord("x")
        self.assertEqual(told(), [[-6]] * 5)

    def test_squares_changed_between_calls_are_read_anew(self):
        garden = open_garden(4, 1)
        squares = [1, 2]
        self.assertEqual(next_side(garden, squares), [0, 1])
        squares.append(3)
        self.assertEqual(next_side(garden, squares), [0, 3])
        squares[0] = 0
        self.assertEqual(next_side(garden, squares), [-9])
        squares.clear()
        self.assertEqual(next_side(garden, squares), [-9])

    def test_nothing_is_kept_at_the_top_of_a_file(self):
        before = kept_at_the_top()
        for call, given in calls():
            call(*given)
        self.assertEqual(kept_at_the_top(), before)

    def test_they_print_nothing(self):
        printed = io.StringIO()
        with contextlib.redirect_stdout(printed), contextlib.redirect_stderr(printed):
            for call, given in calls():
                call(*given)
        self.assertEqual(printed.getvalue(), "")

    def test_they_read_and_import_nothing(self):
        given_calls = calls()
        refusing = mock.Mock(side_effect=AssertionError("something was read or imported"))
        with mock.patch("builtins.open", refusing), mock.patch("builtins.input", refusing), \
                mock.patch("sys.stdin", None), mock.patch("builtins.__import__", refusing):
            for call, given in given_calls:
                call(*given)
        refusing.assert_not_called()

    def test_nothing_but_the_package_is_loaded(self):
        done = subprocess.run(
            [sys.executable, "-c", LOADS_AND_CALLS], cwd=TOP, stdin=subprocess.DEVNULL, capture_output=True, text=True,
            check=False,
        )
        self.assertEqual([done.returncode, done.stdout, done.stderr], [0, "", ""])

    def test_the_longest_thread_needs_few_calls_within_one_another(self):
        way, garden = snake()
        whole = way + way[-2::-1]
        limit = sys.getrecursionlimit()
        sys.setrecursionlimit(len(inspect.stack()) + 30)
        try:
            answers = [
                walk(0, garden), at(0, 99, garden), lies(0, 99, garden), finds(0, 90, garden),
                next_side(garden, way), next_side(garden, whole),
            ]
            refusals = [at(0, LARGEST, garden), lies(0, LARGEST, garden), next_side(garden, whole + [1] * 801)]
        finally:
            sys.setrecursionlimit(limit)
        self.assertEqual(answers, [[0] + whole, [0, 90, 99, 100], [0] + way, [0, 99], [0, 1], [0, 4]])
        self.assertEqual(refusals, [[-5], [-5], [-9]])
