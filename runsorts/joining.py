"""Merging runs that lie on a disk, with a page of each in the room."""

from heapq import heappop, heappush

from runsorts.orders import rank


class Join:
    """Runs that are merged, each from a row on up to an end, and the pages of them that lie in the room."""

    def __init__(self, store, order, begins, ends):
        self.store = store
        self.order = order
        self.at = {name: begins.get(name, 0) for name in ends}
        self.ends = {name: ends[name] for name in ends}
        # The first row of each run, behind its rank, and the runs of which it isn't known yet.
        self.heads = []
        self.headless = [name for name in ends if self.at[name] < ends[name]]
        self.held = {}
        self.held_rows = 0
        self.looked = 0
        self.most = 0

    def is_over(self):
        """Tell whether all rows are merged."""
        return not self.heads and not self.headless

    def take(self, many):
        """Tell the next (number, row) of all, so many of them, or as many as are left."""
        taken = []
        while len(taken) < many and not self.is_over():
            # Only here is one more row wanted: no page is looked at ahead of that.
            for name in self.headless:
                heappush(self.heads, self.head(name))
            self.headless = []
            _, name, told = heappop(self.heads)
            taken.append(told)
            self.most = max(self.most, self.held_rows + len(taken))
            self.go_on(name)
        return taken

    def head(self, name):
        """Tell the first row of a run, behind its rank; its page lies in the room from then on."""
        place = self.at[name] // self.store.page
        if name not in self.held:
            self.held[name] = self.store.look(name, place)
            self.held_rows += len(self.held[name])
            self.looked += 1
        told = self.held[name][self.at[name] - place * self.store.page]
        return rank(self.order, told), name, told

    def go_on(self, name):
        """Go on to the next row of a run, and let go of its page behind the last one there."""
        self.at[name] += 1
        is_over = self.at[name] == self.ends[name]
        if is_over or self.at[name] // self.store.page * self.store.page == self.at[name]:
            self.held_rows -= len(self.held[name])
            del self.held[name]
        if not is_over:
            self.headless.append(name)
