"""The walk through a room, by what was gone and seen so far alone."""


def squares_walked(garden, start):
    """All squares that the walk comes to, from its start on, with it."""
    come_to = [start]
    first_from = {start: None}
    gone = {}
    here = start
    while here is not None:
        side = side_not_gone(garden, here, gone)
        if side is None:
            here = first_from[here]
            if here is not None:
                come_to.append(here)
        else:
            gone[garden.side_place(here, side)] = True
            beyond = garden.square_beyond(here, side)
            come_to.append(beyond)
            if beyond in first_from:
                come_to.append(here)
            else:
                first_from[beyond] = here
                here = beyond
    return come_to


def side_not_gone(garden, square, gone):
    """The first side of a square with a passage that was gone neither way, or None."""
    for side in range(4):
        if garden.has_passage(square, side) and garden.side_place(square, side) not in gone:
            return side
    return None
