"""What several tests need: drawings from the document's words, and its walk told from the squares alone.

Nothing here is drawn from the program, so that both can be held against one another.
"""

WIDEST = 10
HIGHEST = 10

ONE_SQUARE = """
    +-+
    | |
    +-+
"""

RING = """
    +-+-+
    |   |
    + + +
    |   |
    +-+-+
"""

ROOMS = """
    +-+-+-+-+
    |   |   |
    + + +-+ +
    |   | | |
    +-+-+-+ +
    |       |
    +-+-+-+-+
"""

TALL = """
    +-+-+
    | | |
    + + +
    |   |
    +-+ +
    | | |
    + +-+
    |   |
    +-+-+
"""


def signs(text):
    """The bytes of a drawing that a test writes as text, indented as it likes; a blank line is left out."""
    lines = [line.strip() for line in text.split("\n")]
    return [ord(sign) for line in lines if line for sign in line + "\n"]


def inner_sides(wide, high):
    """The two squares at each inner side, in the document's numbering."""
    upright = [(y * wide + x, y * wide + x + 1) for y in range(high) for x in range(wide - 1)]
    level = [(y * wide + x, y * wide + x + wide) for y in range(high - 1) for x in range(wide)]
    return upright + level


def inner_places(wide, high):
    """The place in a drawing of each inner side's sign, in the document's numbering."""
    line = 2 * wide + 2
    upright = [(2 * y + 1) * line + 2 * x + 2 for y in range(high) for x in range(wide - 1)]
    level = [(2 * y + 2) * line + 2 * x + 1 for y in range(high - 1) for x in range(wide)]
    return upright + level


def drawing(wide, high, passages):
    """The drawing of a garden with passages at the inner sides of these numbers, hedges at all others."""
    level = "+" + "-+" * wide
    upright = "|" + " |" * wide
    text = (level + "\n" + upright + "\n") * high + level + "\n"
    bytes_drawn = [ord(sign) for sign in text]
    places = inner_places(wide, high)
    for number in passages:
        bytes_drawn[places[number]] = ord(" ")
    return bytes_drawn


def open_garden(wide, high):
    """The drawing of a garden with all passages."""
    return drawing(wide, high, range(len(inner_sides(wide, high))))


def beside(wide, high, passages):
    """For each square, the squares behind its passages, in the order of its sides."""
    sides = inner_sides(wide, high)
    joined = {sides[number] for number in passages}
    answer = []
    for square in range(wide * high):
        around = []
        for other in (square - wide, square + 1, square + wide, square - 1):
            if (min(square, other), max(square, other)) in joined and other not in around:
                around.append(other)
        answer.append(around)
    return answer


def room(around, start):
    """All squares that one comes to from a square by passages."""
    found = {start}
    left = [start]
    while left:
        for other in around[left.pop()]:
            if other not in found:
                found.add(other)
                left.append(other)
    return found


def ways(around, start, end):
    """Every way from a square to another that passes no square twice."""
    found = []
    left = [[start]]
    while left:
        way = left.pop()
        if way[-1] == end:
            found.append(way)
        else:
            left += [way + [other] for other in around[way[-1]] if other not in way]
    return found


def goes_on(around, squares):
    """The square that a walk which came to these squares comes to next, or None where it is ended."""
    here = squares[-1]
    steps = list(zip(squares, squares[1:]))
    if steps:
        last = steps[-1]
        new = last not in steps[:-1] and (here, last[0]) not in steps
        if new and here in squares[:-1]:
            return last[0]
    for other in around[here]:
        if (here, other) not in steps and (other, here) not in steps:
            return other
    first = squares.index(here)
    return squares[first - 1] if first > 0 else None


def told_side(wide, around, squares):
    """The side that a walk which came to these squares goes on by, or 4 where it is ended."""
    then = goes_on(around, squares)
    if then is None:
        return 4
    here = squares[-1]
    if here // wide == then // wide:
        return 1 if then > here else 3
    return 2 if then > here else 0


def told_walk(around, start):
    """The whole walk, each square found anew from those before it."""
    squares = [start]
    while True:
        then = goes_on(around, squares)
        if then is None:
            return squares
        squares.append(then)


def told_thread(squares):
    """The squares of the thread that lies behind these squares of a walk: along what was gone just once."""
    steps = list(zip(squares, squares[1:]))
    gone = set(steps)
    return squares[:1] + [there for here, there in steps if (there, here) not in gone]


def turned(wide, high, passages, seen):
    """The drawing with every inner side turned about that is at none of these squares."""
    sides = inner_sides(wide, high)
    elsewhere = [number for number, pair in enumerate(sides) if not seen & set(pair)]
    return drawing(wide, high, set(passages) ^ set(elsewhere))


class Chances:
    """Numbers that look thrown but are the same on every run and every Python."""

    def __init__(self, seed):
        self.state = seed

    def below(self, limit):
        """A number from 0 to limit - 1."""
        self.state = (self.state * 6364136223846793005 + 1442695040888963407) % 2 ** 64
        return (self.state >> 33) % limit


def thrown_gardens(seed, count):
    """So many gardens of all sizes, from sparse to open: (wide, high, passages)."""
    chances = Chances(seed)
    answer = []
    for _ in range(count):
        wide = 1 + chances.below(WIDEST)
        high = 1 + chances.below(HIGHEST)
        tenths = 3 + chances.below(7)
        numbers = range(len(inner_sides(wide, high)))
        answer.append((wide, high, [number for number in numbers if chances.below(10) < tenths]))
    return answer


def small_gardens(most_sides):
    """Every garden of at most so many inner sides: (wide, high, passages)."""
    answer = []
    for wide in range(1, WIDEST + 1):
        for high in range(1, HIGHEST + 1):
            count = len(inner_sides(wide, high))
            if count <= most_sides:
                for choice in range(2 ** count):
                    answer.append((wide, high, [n for n in range(count) if choice >> n & 1]))
    return answer


def thrown_trees(seed, count):
    """So many gardens of all sizes that are one room without rings: (wide, high, passages)."""
    chances = Chances(seed)
    answer = []
    for _ in range(count):
        wide = 1 + chances.below(WIDEST)
        high = 1 + chances.below(HIGHEST)
        sides = inner_sides(wide, high)
        left = list(range(len(sides)))
        passages = []
        rooms = [{square} for square in range(wide * high)]
        while left:
            number = left.pop(chances.below(len(left)))
            one, other = [next(part for part in rooms if square in part) for square in sides[number]]
            if one is not other:
                passages.append(number)
                rooms.remove(other)
                one |= other
        answer.append((wide, high, sorted(passages)))
    return answer


def all_open():
    """A garden with all passages of each size: (wide, high, passages)."""
    sizes = [(wide, high) for wide in range(1, WIDEST + 1) for high in range(1, HIGHEST + 1)]
    return [(wide, high, range(len(inner_sides(wide, high)))) for wide, high in sizes]


def some_squares(wide, high):
    """The squares at the corners and one about the middle."""
    last = wide * high - 1
    return sorted({0, wide - 1, last // 2, last - wide + 1, last})


def starts_of_all_kinds(seed):
    """Small, thrown, open and the largest gardens, with squares to begin at: (wide, high, passages, start)."""
    for wide, high, passages in small_gardens(7):
        for start in range(wide * high):
            yield wide, high, passages, start
    for wide, high, passages in thrown_gardens(seed, 40):
        for start in some_squares(wide, high):
            yield wide, high, passages, start
    for count in range(1, WIDEST + 1):
        for start in range(count):
            yield count, 1, range(count - 1), start
            yield 1, count, range(count - 1), start
    for start in some_squares(WIDEST, HIGHEST):
        yield WIDEST, HIGHEST, range(len(inner_sides(WIDEST, HIGHEST))), start


def snake():
    """The longest way there is, row by row there and back through 10 by 10: (its squares, the drawing)."""
    rows = [list(range(10 * y, 10 * y + 10)) for y in range(10)]
    way = [square for y, row in enumerate(rows) for square in (row if y % 2 == 0 else row[::-1])]
    joined = {(min(pair), max(pair)) for pair in zip(way, way[1:])}
    return way, drawing(10, 10, [number for number, pair in enumerate(inner_sides(10, 10)) if pair in joined])
