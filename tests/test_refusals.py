"""Refusals, and which of several counts."""

import unittest

from tests.helper import ROOMS, drawing, inner_places, inner_sides, open_garden, signs, thrown_gardens
from threadwalk.desk import at, finds, lies, next_side, walk

TOO_LONG = [-2]
NO_SQUARE = [-4]
TOO_FEW = [-5]
NEVER = [-5]
AT_FAULT = [-6]
NO_BEGINNING = [-9]
LARGEST = 4294967295

SMALL = """
    +-+-+-+
    |     |
    + +-+ +
    | |   |
    +-+-+-+
"""

# Its first rows are gardens themselves, for a level line without a blank may be the last.
STACKED = """
    +-+-+
    |   |
    +-+-+
    | | |
    +-+-+
    |   |
    +-+-+
"""


def answers(s, garden):
    """What each call answers, with no step and with more than any walk has; finds from, to and at the square."""
    stepping = [call(s, i, garden) for call in (at, lies) for i in (0, LARGEST)]
    finding = [finds(s, 0, garden), finds(0, s, garden), finds(s, s, garden)]
    return [walk(s, garden)] + stepping + finding


class Refusals(unittest.TestCase):
    def assert_refused(self, s, garden, refusal):
        self.assertEqual(answers(s, garden), [refusal] * 8)
        no_beginning = NO_BEGINNING if refusal == NO_SQUARE else refusal
        self.assertEqual(next_side(garden, [s]), no_beginning)
        self.assertEqual(next_side(garden, []), no_beginning)

    def assert_at_fault(self, garden):
        self.assert_refused(0, garden, AT_FAULT)

    def assert_no_fault(self, garden):
        self.assertEqual(walk(0, garden)[:2], [0, 0])
        self.assertEqual(at(0, 0, garden), [0, 0, 0, 1])
        self.assertEqual(lies(0, 0, garden), [0, 0])
        self.assertEqual(at(0, LARGEST, garden), TOO_FEW)
        self.assertEqual(lies(0, LARGEST, garden), TOO_FEW)
        self.assertEqual(finds(0, 0, garden), [0, 0])
        self.assertEqual(next_side(garden, [0])[0], 0)
        self.assertEqual(next_side(garden, []), NO_BEGINNING)


class TooLong(Refusals):
    def test_1024_bytes_are_not_too_many(self):
        for sign in (0, 10, 32, 43, 45, 124, 255):
            self.assert_refused(0, [sign] * 1024, AT_FAULT)

    def test_1025_bytes_are_too_many(self):
        for sign in (0, 10, 32, 43, 45, 124, 255):
            self.assert_refused(0, [sign] * 1025, TOO_LONG)

    def test_4000_bytes_are_too_many(self):
        self.assert_refused(0, [32] * 4000, TOO_LONG)

    def test_a_drawing_with_bytes_behind_it(self):
        garden = open_garden(10, 10)
        self.assert_refused(0, garden + [10] * (1024 - len(garden)), AT_FAULT)
        self.assert_refused(0, garden + [10] * (1025 - len(garden)), TOO_LONG)
        self.assert_refused(0, garden + [10] * (4000 - len(garden)), TOO_LONG)

    def test_a_drawing_by_its_form_that_is_too_long(self):
        wide = signs("+" + "-+" * 200 + "\n|" + " |" * 200 + "\n+" + "-+" * 200)
        self.assertGreater(len(wide), 1024)
        self.assert_refused(0, wide, TOO_LONG)


class AtFault(Refusals):
    def test_the_empty_drawing(self):
        self.assert_at_fault([])

    def test_a_drawing_that_breaks_off(self):
        for garden in (signs("+-+\n| |\n+-+"), signs(SMALL), open_garden(10, 10)):
            self.assert_no_fault(garden)
            for length in range(len(garden)):
                self.assert_at_fault(garden[:length])

    def test_a_drawing_that_breaks_off_where_it_may_end(self):
        garden = signs(STACKED)
        for length in range(len(garden) + 1):
            if length in (18, 30, 42):
                self.assert_no_fault(garden[:length])
            else:
                self.assert_at_fault(garden[:length])

    def assert_each_byte_counts(self, wide, high, passages):
        garden = drawing(wide, high, passages)
        line = 2 * wide + 2
        free = inner_places(wide, high)
        for place in range(len(garden)):
            hedge = 45 if place // line % 2 == 0 else 124
            for sign in range(256):
                made = garden[:place] + [sign] + garden[place + 1:]
                if made == garden or (place in free and sign in (32, hedge)):
                    self.assert_no_fault(made)
                else:
                    self.assert_at_fault(made)

    def test_each_byte_made_another(self):
        self.assert_each_byte_counts(1, 1, [])
        self.assert_each_byte_counts(3, 2, [0, 1, 3, 4, 6])
        for wide, high, passages in thrown_gardens(6, 2):
            self.assert_each_byte_counts(wide, high, passages)

    def test_each_byte_of_the_largest_made_another_sign(self):
        garden = open_garden(10, 10)
        free = inner_places(10, 10)
        for place in range(len(garden)):
            for sign in (0, 10, 13, 32, 43, 45, 124, 255):
                hedge = 45 if place // 22 % 2 == 0 else 124
                if sign != garden[place] and not (place in free and sign == hedge):
                    self.assert_at_fault(garden[:place] + [sign] + garden[place + 1:])

    def test_a_byte_left_out_or_put_in(self):
        garden = signs(SMALL)
        for place in range(len(garden)):
            self.assert_at_fault(garden[:place] + garden[place + 1:])
            for sign in (10, 32, 43, 45, 124):
                self.assert_at_fault(garden[:place] + [sign] + garden[place:])

    def test_bytes_behind_its_end(self):
        for garden in (signs("+-+\n| |\n+-+"), signs(SMALL), open_garden(10, 10)):
            for sign in range(256):
                self.assert_at_fault(garden + [sign])
            self.assert_at_fault(garden + garden)
            self.assert_at_fault(garden + garden[-2:])

    def test_a_row_behind_its_end_is_a_row_more(self):
        garden = signs("+-+\n| |\n+-+")
        self.assert_refused(1, garden, NO_SQUARE)
        self.assertEqual(walk(1, garden + garden[4:]), [0, 1])
        self.assert_at_fault(garden + garden[4:8])

    def test_an_11th_column(self):
        for high in (1, 5, 10):
            self.assert_no_fault(drawing(10, high, []))
            self.assert_at_fault(drawing(11, high, []))
            self.assert_at_fault(open_garden(11, high))

    def test_an_11th_row(self):
        for wide in (1, 5, 10):
            self.assert_no_fault(drawing(wide, 10, []))
            self.assert_at_fault(drawing(wide, 11, []))
            self.assert_at_fault(open_garden(wide, 11))

    def test_an_11th_row_behind_a_border_without_a_blank(self):
        passages = [number for number, pair in enumerate(inner_sides(3, 11)) if pair[1] < 30]
        self.assert_at_fault(drawing(3, 11, passages))

    def test_no_column_and_no_row(self):
        self.assert_at_fault(signs("+\n|\n+"))
        self.assert_at_fault(signs("+\n+\n+"))
        self.assert_at_fault(signs("+-+"))
        self.assert_at_fault(signs("+"))
        self.assert_at_fault([10])
        self.assert_at_fault([10, 10, 10])

    def test_a_level_line_with_a_blank_is_not_the_last(self):
        self.assert_at_fault(signs("+-+-+\n|   |\n+ +-+"))
        self.assert_at_fault(signs("+-+-+\n|   |\n+-+ +"))
        self.assert_at_fault(signs("+-+\n| |\n+ +"))
        line = 2 * 2 + 2
        for number, row in ((3, 1), (4, 1), (5, 2), (6, 2)):
            garden = drawing(2, 3, [number])
            self.assert_no_fault(garden)
            self.assert_at_fault(garden[:(2 * row + 1) * line])

    def test_a_blank_in_the_first_line(self):
        self.assert_at_fault(signs("+-+ +\n|   |\n+-+-+"))

    def test_a_blank_in_the_border_beside(self):
        self.assert_at_fault(list("+-+-+\n    |\n+-+-+\n".encode()))
        self.assert_at_fault(list("+-+-+\n|    \n+-+-+\n".encode()))

    def test_lines_of_unlike_length(self):
        lines = ["+-+-+\n", "|   |\n", "+ +-+\n", "|   |\n", "+-+-+\n"]
        longer = ["+-+-+-+\n", "|     |\n", "+ +-+ +\n", "|     |\n", "+-+-+-+\n"]
        shorter = ["+-+\n", "| |\n", "+ +\n", "| |\n", "+-+\n"]
        self.assert_no_fault(list("".join(lines).encode()))
        for place in range(5):
            for others in (longer, shorter):
                made = "".join(lines[:place] + [others[place]] + lines[place + 1:])
                self.assert_at_fault(list(made.encode()))

    def test_unlike_lengths_that_make_up_for_one_another(self):
        self.assert_at_fault(signs("+-+-+\n|  |\n+ +-+-\n|   |\n+-+-+"))
        self.assert_at_fault(list("+-+-+\n|   |+\n-+-+\n".encode()))

    def test_an_even_number_of_signs_or_lines(self):
        self.assert_at_fault(signs("+-+-\n|  |\n+-+-"))
        self.assert_at_fault(signs("+-+\n| |\n| |\n+-+"))

    def test_other_row_ends(self):
        self.assert_at_fault(list("+-+\r\n| |\r\n+-+\r\n".encode()))
        self.assert_at_fault(list("+-+\r| |\r+-+\r".encode()))
        self.assert_at_fault(list("\n+-+\n| |\n+-+\n".encode()))


class NoSuchSquare(Refusals):
    def test_about_the_number_of_squares(self):
        for wide, high in ((1, 1), (1, 10), (10, 1), (4, 3), (3, 4), (10, 10)):
            garden = open_garden(wide, high)
            count = wide * high
            self.assertEqual(walk(count - 1, garden)[:2], [0, count - 1])
            self.assert_refused(count, garden, NO_SQUARE)
            self.assert_refused(count + 1, garden, NO_SQUARE)
            self.assert_refused(LARGEST, garden, NO_SQUARE)

    def test_in_a_garden_of_hedges_alone(self):
        garden = drawing(3, 3, [])
        self.assertEqual(walk(8, garden), [0, 8])
        self.assert_refused(9, garden, NO_SQUARE)

    def test_either_of_the_two_that_finds_is_asked_for(self):
        for wide, high in ((1, 1), (1, 10), (10, 1), (4, 3), (3, 4), (10, 10)):
            for garden in (open_garden(wide, high), drawing(wide, high, [])):
                last = wide * high - 1
                self.assertEqual(finds(last, last, garden), [0, 0])
                for missing in (last + 1, last + 2, 1024, LARGEST - 1, LARGEST):
                    for other in (0, last, last + 1, LARGEST):
                        self.assertEqual(finds(missing, other, garden), NO_SQUARE)
                        self.assertEqual(finds(other, missing, garden), NO_SQUARE)


class NeverComeTo(Refusals):
    def test_squares_of_other_rooms(self):
        garden = signs(ROOMS)
        rooms = ((0, 1, 4, 5), (6,), (2, 3, 7, 8, 9, 10, 11))
        for one in rooms:
            for other in rooms:
                for s in one:
                    for u in other:
                        if one == other:
                            self.assertEqual(finds(s, u, garden)[0], 0)
                        else:
                            self.assertEqual(finds(s, u, garden), NEVER)

    def test_in_a_garden_of_hedges_alone(self):
        garden = drawing(10, 10, [])
        for s in range(100):
            for u in range(100):
                self.assertEqual(finds(s, u, garden), [0, 0] if s == u else NEVER)


class TooFewSteps(Refusals):
    def assert_has_steps(self, s, garden, steps):
        for call in (at, lies):
            self.assertEqual(call(s, steps, garden)[:2], [0, s])
            for more in (steps + 1, steps + 2, 2 * steps + 1, 361, LARGEST - 1, LARGEST):
                self.assertEqual(call(s, more, garden), TOO_FEW)

    def test_about_the_number_of_steps(self):
        for wide, high in ((1, 1), (1, 10), (10, 1), (4, 3), (3, 4), (10, 10)):
            for square in (0, wide * high // 2, wide * high - 1):
                self.assert_has_steps(square, drawing(wide, high, []), 0)
                self.assert_has_steps(square, open_garden(wide, high), 2 * len(inner_sides(wide, high)))

    def test_the_passages_of_other_rooms_are_no_steps(self):
        garden = signs(ROOMS)
        for square, steps in ((0, 8), (5, 8), (6, 0), (2, 12), (11, 12)):
            self.assert_has_steps(square, garden, steps)


class WhichCounts(Refusals):
    def test_at_fault_and_too_long(self):
        garden = signs(SMALL) + [0] * 1024
        self.assert_refused(0, garden, TOO_LONG)

    def test_too_long_and_no_such_square(self):
        self.assert_refused(LARGEST, [0] * 1025, TOO_LONG)
        self.assert_refused(LARGEST, signs(SMALL) + [0] * 1024, TOO_LONG)

    def test_at_fault_and_no_such_square(self):
        garden = signs(SMALL)
        self.assert_refused(6, garden, NO_SQUARE)
        self.assert_refused(6, garden[:-1], AT_FAULT)
        self.assert_refused(LARGEST, garden + [32], AT_FAULT)
        self.assert_refused(LARGEST, [], AT_FAULT)

    def test_too_few_steps_and_each_other(self):
        garden = signs(SMALL)
        for call in (at, lies):
            self.assertEqual(call(5, LARGEST, garden), TOO_FEW)
            self.assertEqual(call(6, LARGEST, garden), NO_SQUARE)
            self.assertEqual(call(LARGEST, LARGEST, garden), NO_SQUARE)
            self.assertEqual(call(5, LARGEST, garden[:-1]), AT_FAULT)
            self.assertEqual(call(6, LARGEST, garden[:-1]), AT_FAULT)
            self.assertEqual(call(5, LARGEST, garden + [10] * 1024), TOO_LONG)
            self.assertEqual(call(6, LARGEST, garden + [10] * 1024), TOO_LONG)

    def test_never_come_to_and_each_other(self):
        rooms = signs(ROOMS)
        self.assertEqual(finds(6, 0, rooms), NEVER)
        for s, u in ((6, 12), (12, 6), (0, LARGEST), (LARGEST, 0), (12, LARGEST)):
            self.assertEqual(finds(s, u, rooms), NO_SQUARE)
        for s, u in ((6, 0), (6, 12), (12, 6), (12, 12), (LARGEST, LARGEST)):
            self.assertEqual(finds(s, u, rooms[:-1]), AT_FAULT)
            self.assertEqual(finds(s, u, []), AT_FAULT)
            self.assertEqual(finds(s, u, rooms + [10] * 1024), TOO_LONG)
            self.assertEqual(finds(s, u, [10] * 4000), TOO_LONG)

    def test_no_beginning_and_each_other(self):
        rooms = signs(ROOMS)
        self.assertEqual(next_side(rooms, [6]), [0, 4])
        for squares in ([], [12], [LARGEST], [6, 6], [0, 5], [LARGEST] * 1000, list(range(1000))):
            self.assertEqual(next_side(rooms, squares), NO_BEGINNING)
            self.assertEqual(next_side(rooms[:-1], squares), AT_FAULT)
            self.assertEqual(next_side(rooms + [32], squares), AT_FAULT)
            self.assertEqual(next_side([], squares), AT_FAULT)
            self.assertEqual(next_side([10] * 1024, squares), AT_FAULT)
            self.assertEqual(next_side([10] * 1025, squares), TOO_LONG)
            self.assertEqual(next_side(rooms + [10] * 1024, squares), TOO_LONG)
            self.assertEqual(next_side([10] * 4000, squares), TOO_LONG)

    def test_refusals_of_the_drawing_and_a_beginning(self):
        rooms = signs(ROOMS)
        squares = walk(2, rooms)[1:]
        for count in range(1, len(squares) + 1):
            self.assertEqual(next_side(rooms, squares[:count])[0], 0)
            self.assertEqual(next_side(rooms[1:], squares[:count]), AT_FAULT)
            self.assertEqual(next_side(rooms + [10] * 1024, squares[:count]), TOO_LONG)
