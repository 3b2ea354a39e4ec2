"""The walk through a room, step by step, by what was gone and seen so far alone."""

ENDED = 4


def walker_behind(squares, garden):
    """A walker that has come to just these squares, from the first on, or None if no walk begins with them."""
    if len(squares) == 0 or not garden.has_square(squares[0]):
        return None
    walker = Walker(garden, squares[0])
    for square in squares[1:]:
        if not walker.take_step() or walker.here() != square:
            return None
    return walker


class Walker:
    """Who walks from a square of a garden along a thread.

    thread: the squares of the thread that lies, from the start to where the walker stands;
    sides: the side by which each passage of the thread was gone; seen: each square seen so far;
    gone: the place of each passage gone so far, one way or both.
    """

    def __init__(self, garden, start):
        self.garden = garden
        self.thread = [start]
        self.sides = []
        self.seen = {start: True}
        self.gone = {}
        self.turning = False

    def here(self):
        """The square where the walker stands."""
        return self.thread[-1]

    def take_steps(self, count):
        """Goes so many steps, or all that are left; whether there were as many."""
        for step in range(count):
            if not self.take_step():
                return False
        return True

    def take_step(self):
        """Goes one step; whether one was left."""
        side = self.side_ahead()
        if side == ENDED:
            return False
        if self.is_gone(side):
            self.roll_up()
        else:
            self.unroll(side)
        return True

    def side_ahead(self):
        """The side by which the next step goes, or 4 where the walk is ended."""
        side = None if self.turning else self.side_not_gone()
        if side is not None:
            return side
        if len(self.sides) > 0:
            return (self.sides[-1] + 2) % 4
        return ENDED

    def side_not_gone(self):
        """The first side here with a passage that was gone neither way, or None."""
        for side in range(4):
            if self.garden.has_passage(self.here(), side) and not self.is_gone(side):
                return side
        return None

    def is_gone(self, side):
        """Whether the passage at a side here was gone, one way or both."""
        return self.garden.side_place(self.here(), side) in self.gone

    def unroll(self, side):
        """Goes through a passage that was not gone before."""
        beyond = self.garden.square_beyond(self.here(), side)
        self.gone[self.garden.side_place(self.here(), side)] = True
        self.turning = beyond in self.seen
        self.seen[beyond] = True
        self.thread.append(beyond)
        self.sides.append(side)

    def roll_up(self):
        """Goes back by the last passage of the thread.

        By it the square here was first come to, or come to again just now: what was gone from here
        since then is rolled up already.
        """
        self.thread.pop()
        self.sides.pop()
        self.turning = False
