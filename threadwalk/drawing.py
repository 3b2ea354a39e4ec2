"""Drawings of gardens, as rows of bytes, and what refuses one."""

ROW_END = 10
BLANK = 32
CORNER = 43
LEVEL_HEDGE = 45
UPRIGHT_HEDGE = 124

MOST_BYTES = 1024
MOST_SQUARES_ALONG = 10


def drawing_refusal(signs):
    """-2 if there are too many bytes, -6 if they are at fault, 0 if they are a garden's drawing."""
    if len(signs) > MOST_BYTES:
        return -2
    if not is_drawing(signs):
        return -6
    return 0


def is_drawing(signs):
    """Whether these bytes are the drawing of a garden, from the first to the last."""
    if ROW_END not in signs:
        return False
    columns = signs.index(ROW_END)
    lines = len(signs) // (columns + 1)
    if len(signs) != lines * (columns + 1):
        return False
    if not fits_squares(columns) or not fits_squares(lines):
        return False
    for place, sign in enumerate(signs):
        if sign not in signs_allowed(place, columns, lines):
            return False
    return True


def fits_squares(count):
    """Whether so many signs or lines are 2 n + 1 for a number n of squares that a garden may have."""
    return count % 2 == 1 and 1 <= count // 2 <= MOST_SQUARES_ALONG


def signs_allowed(place, columns, lines):
    """The bytes that a drawing of so many columns and lines may have at a place."""
    line = place // (columns + 1)
    column = place % (columns + 1)
    if column == columns:
        return (ROW_END,)
    if line % 2 == 0 and column % 2 == 0:
        return (CORNER,)
    if line % 2 == 1 and column % 2 == 1:
        return (BLANK,)
    hedge = LEVEL_HEDGE if line % 2 == 0 else UPRIGHT_HEDGE
    if line in (0, lines - 1) or column in (0, columns - 1):
        return (hedge,)
    return (hedge, BLANK)
