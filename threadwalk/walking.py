"""The walk through a room, step by step, by what was gone and seen so far alone."""


class Walker:
    """Who walks from a square of a garden along a thread.

    thread: the squares of the thread that lies, from the start to where the walker stands;
    seen: each square seen so far; gone: the place of each passage gone so far, one way or both.
    """

    def __init__(self, garden, start):
        self.garden = garden
        self.thread = [start]
        self.seen = {start: True}
        self.gone = {}
        self.turning = False

    def here(self):
        """The square where the walker stands."""
        return self.thread[-1]

    def take_steps(self, count):
        """Goes so many steps, or all that are left; whether there were as many."""
        for step in range(count):
            if not self.take_step():
                return False
        return True

    def take_step(self):
        """Goes one step; whether one was left."""
        side = None if self.turning else self.side_not_gone()
        if side is not None:
            self.unroll(side)
        elif len(self.thread) > 1:
            self.roll_up()
        else:
            return False
        return True

    def side_not_gone(self):
        """The first side here with a passage that was gone neither way, or None."""
        for side in range(4):
            if self.garden.has_passage(self.here(), side):
                if self.garden.side_place(self.here(), side) not in self.gone:
                    return side
        return None

    def unroll(self, side):
        """Goes through a passage that was not gone before."""
        beyond = self.garden.square_beyond(self.here(), side)
        self.gone[self.garden.side_place(self.here(), side)] = True
        self.turning = beyond in self.seen
        self.seen[beyond] = True
        self.thread.append(beyond)

    def roll_up(self):
        """Goes back by the last passage of the thread.

        By it the square here was first come to, or come to again just now: what was gone from here
        since then is rolled up already.
        """
        self.thread.pop()
        self.turning = False
