"""The desk: answers each call by itself, with a list of whole numbers."""

from threadwalk.drawing import drawing_refusal
from threadwalk.garden import Garden, square_refusal
from threadwalk.walking import Walker, walker_behind


def walk(s, garden):
    """0 and all squares that the walk from s comes to, or a refusal alone: -2, -6, or -4 for no such square."""
    refusal = square_refusal(s, garden)
    if refusal != 0:
        return [refusal]
    walker = Walker(Garden(garden), s)
    answer = [0, s]
    while walker.take_step():
        answer.append(walker.here())
    return answer


def at(s, i, garden):
    """0 and what holds after i steps: the square, the passages of the thread that lies, the squares seen.

    Or a refusal alone: -2, -6, -4 for no such square, -5 for a walk with fewer steps.
    """
    refusal = square_refusal(s, garden)
    if refusal != 0:
        return [refusal]
    walker = Walker(Garden(garden), s)
    if not walker.take_steps(i):
        return [-5]
    return [0, walker.here(), len(walker.thread) - 1, len(walker.seen)]


def lies(s, i, garden):
    """0 and the squares of the thread that lies after i steps, from s on, or a refusal alone, as of at."""
    refusal = square_refusal(s, garden)
    if refusal != 0:
        return [refusal]
    walker = Walker(Garden(garden), s)
    if not walker.take_steps(i):
        return [-5]
    return [0] + walker.thread


def finds(s, u, garden):
    """0 and after how many steps of the walk from s square u is first come to, or a refusal alone.

    The refusals: -2, -6, -4 if either is no such square, -5 if the walk never comes to u.
    """
    # Squares are numbered from 0 without a gap: if one of the two is missing, the greater is.
    refusal = square_refusal(max(s, u), garden)
    if refusal != 0:
        return [refusal]
    walker = Walker(Garden(garden), s)
    steps = 0
    while walker.here() != u:
        if not walker.take_step():
            return [-5]
        steps += 1
    return [0, steps]


def next_side(garden, squares):
    """0 and the side that the walk goes on by behind these squares, from its first on, or 4 where it is ended.

    Or a refusal alone: -2, -6, -9 for no squares or squares that are no walk's beginning.
    """
    refusal = drawing_refusal(garden)
    if refusal != 0:
        return [refusal]
    walker = walker_behind(squares, Garden(garden))
    if walker is None:
        return [-9]
    return [0, walker.side_ahead()]
