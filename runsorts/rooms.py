"""A sieve: rows come in, and the first of those that are there goes out."""

from heapq import heappop, heappush

from runsorts.errors import BadRows, Empty
from runsorts.orders import MOST_ROWS, check_kinds, check_order, is_row, rank


class Sieve:
    """Lets rows in, and each time the first one out."""

    def __init__(self, kinds, order):
        check_kinds(kinds)
        check_order(kinds, order)
        self.kinds = kinds
        self.order = list(order)
        self.came = 0
        self.queue = []

    def put(self, row):
        """Let a row in, and tell its number."""
        number = self.came
        if number >= MOST_ROWS or not is_row(self.kinds, row):
            # The place is where a row stands in what is handed in, and that is one row.
            raise BadRows(0)
        told = (number, row)
        heappush(self.queue, (rank(self.order, told), told))
        self.came += 1
        return number

    def take(self):
        """Let the first (number, row) that is there out, and tell it."""
        if not self.queue:
            raise Empty("no row is there")
        return heappop(self.queue)[1]

    def remains(self):
        """Tell how many rows are there."""
        return len(self.queue)
