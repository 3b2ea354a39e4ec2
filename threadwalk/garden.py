"""A garden, as it is read from its drawing."""

from threadwalk.drawing import BLANK, ROW_END, drawing_refusal


def square_refusal(square, signs):
    """The drawing's refusal if it has one, -4 if its garden has no such square, 0 if it has it."""
    refusal = drawing_refusal(signs)
    if refusal != 0:
        return refusal
    if not Garden(signs).has_square(square):
        return -4
    return 0


class Garden:
    """The squares of a faultless drawing and what stands at their sides.

    Sides are 0 upper, 1 right, 2 lower, 3 left. The border needs no care of its own: its signs are
    never blank, so no passage leads out.
    """

    def __init__(self, signs):
        self.signs = list(signs)
        self.line_length = signs.index(ROW_END) + 1
        self.wide = self.line_length // 2 - 1
        self.high = len(signs) // self.line_length // 2

    def has_square(self, square):
        """Whether a number from 0 on is the number of a square."""
        return square < self.wide * self.high

    def side_place(self, square, side):
        """The place in the drawing of the sign at a square's side; both squares there find the same."""
        line = square // self.wide * 2 + 1
        column = square % self.wide * 2 + 1
        middle = line * self.line_length + column
        return middle + (-self.line_length, 1, self.line_length, -1)[side]

    def has_passage(self, square, side):
        """Whether there is a passage at a square's side."""
        return self.signs[self.side_place(square, side)] == BLANK

    def square_beyond(self, square, side):
        """The square that the passage at a square's side leads to."""
        return square + (-self.wide, 1, self.wide, -1)[side]
