"""A room that makes runs: for each row that goes out the next one comes in."""

from heapq import heapify, heappop, heappush

from runsorts.orders import rank


class Exchange:
    """The rows in a room: those that may still go into the run, and those that wait for the next one."""

    def __init__(self, order):
        self.order = order
        self.going = []
        self.waiting = []
        self.last = None

    def let_in(self, told):
        """Let a (number, row) in; it waits if it is ahead of the one that went out last."""
        entry = (rank(self.order, told), told)
        if self.last is not None and entry[0] < self.last:
            self.waiting.append(entry)
        else:
            heappush(self.going, entry)

    def let_out(self):
        """Let the first (number, row) that may go out, and tell it."""
        self.last, told = heappop(self.going)
        return told

    def is_over(self):
        """Tell whether none that is there may go into the run."""
        return not self.going

    def holds(self):
        """Tell how many rows are there."""
        return len(self.going) + len(self.waiting)

    def begin_next(self):
        """Begin the next run with those that waited for it."""
        self.going = self.waiting
        heapify(self.going)
        self.waiting = []
        self.last = None
