"""What several tests need: drawings from the document's words, and its walk told from the squares alone.

Nothing here is drawn from the program, so that both can be held against one another.
"""

WIDEST = 10
HIGHEST = 10


def signs(text):
    """The bytes of a drawing that a test writes as text, indented as it likes; a blank line is left out."""
    lines = [line.strip() for line in text.split("\n")]
    return [ord(sign) for line in lines if line for sign in line + "\n"]


def inner_sides(wide, high):
    """The two squares at each inner side, in the document's numbering."""
    upright = [(y * wide + x, y * wide + x + 1) for y in range(high) for x in range(wide - 1)]
    level = [(y * wide + x, y * wide + x + wide) for y in range(high - 1) for x in range(wide)]
    return upright + level


def inner_places(wide, high):
    """The place in a drawing of each inner side's sign, in the document's numbering."""
    line = 2 * wide + 2
    upright = [(2 * y + 1) * line + 2 * x + 2 for y in range(high) for x in range(wide - 1)]
    level = [(2 * y + 2) * line + 2 * x + 1 for y in range(high - 1) for x in range(wide)]
    return upright + level


def drawing(wide, high, passages):
    """The drawing of a garden with passages at the inner sides of these numbers, hedges at all others."""
    level = "+" + "-+" * wide
    upright = "|" + " |" * wide
    text = (level + "\n" + upright + "\n") * high + level + "\n"
    bytes_drawn = [ord(sign) for sign in text]
    places = inner_places(wide, high)
    for number in passages:
        bytes_drawn[places[number]] = ord(" ")
    return bytes_drawn


def open_garden(wide, high):
    """The drawing of a garden with all passages."""
    return drawing(wide, high, range(len(inner_sides(wide, high))))


def beside(wide, high, passages):
    """For each square, the squares behind its passages, in the order of its sides."""
    sides = inner_sides(wide, high)
    joined = {sides[number] for number in passages}
    answer = []
    for square in range(wide * high):
        around = []
        for other in (square - wide, square + 1, square + wide, square - 1):
            if (min(square, other), max(square, other)) in joined and other not in around:
                around.append(other)
        answer.append(around)
    return answer


def room(around, start):
    """All squares that one comes to from a square by passages."""
    found = {start}
    left = [start]
    while left:
        for other in around[left.pop()]:
            if other not in found:
                found.add(other)
                left.append(other)
    return found


def goes_on(around, squares):
    """The square that a walk which came to these squares comes to next, or None where it is ended."""
    here = squares[-1]
    steps = list(zip(squares, squares[1:]))
    if steps:
        last = steps[-1]
        new = last not in steps[:-1] and (here, last[0]) not in steps
        if new and here in squares[:-1]:
            return last[0]
    for other in around[here]:
        if (here, other) not in steps and (other, here) not in steps:
            return other
    first = squares.index(here)
    return squares[first - 1] if first > 0 else None


def told_walk(around, start):
    """The whole walk, each square found anew from those before it."""
    squares = [start]
    while True:
        then = goes_on(around, squares)
        if then is None:
            return squares
        squares.append(then)


class Chances:
    """Numbers that look thrown but are the same on every run and every Python."""

    def __init__(self, seed):
        self.state = seed

    def below(self, limit):
        """A number from 0 to limit - 1."""
        self.state = (self.state * 6364136223846793005 + 1442695040888963407) % 2 ** 64
        return (self.state >> 33) % limit


def thrown_gardens(seed, count):
    """So many gardens of all sizes, from sparse to open: (wide, high, passages)."""
    chances = Chances(seed)
    answer = []
    for _ in range(count):
        wide = 1 + chances.below(WIDEST)
        high = 1 + chances.below(HIGHEST)
        tenths = 3 + chances.below(7)
        numbers = range(len(inner_sides(wide, high)))
        answer.append((wide, high, [number for number in numbers if chances.below(10) < tenths]))
    return answer


def small_gardens():
    """Every garden of at most 10 inner sides: (wide, high, passages)."""
    answer = []
    for wide in range(1, WIDEST + 1):
        for high in range(1, HIGHEST + 1):
            count = len(inner_sides(wide, high))
            if count <= 10:
                for choice in range(2 ** count):
                    answer.append((wide, high, [n for n in range(count) if choice >> n & 1]))
    return answer
