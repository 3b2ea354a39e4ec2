"""The desk: answers each call by itself, with a list of whole numbers."""

from threadwalk.drawing import drawing_refusal
from threadwalk.garden import Garden
from threadwalk.walking import squares_walked


def walk(s, garden):
    """0 and all squares that the walk from s comes to, or a refusal alone: -2, -6, or -4 for no such square."""
    refusal = drawing_refusal(garden)
    if refusal != 0:
        return [refusal]
    plan = Garden(garden)
    if not plan.has_square(s):
        return [-4]
    return [0] + squares_walked(plan, s)
