"""What a sorter has on its disk: pages that tell where they belong, and a root that tells which of them count."""

from heapq import heappop, heappush

from runsorts.disk import MANY_BLOCKS
from runsorts.errors import BadRoom

ROOT = 0
# The rows that came lie in pages as those of runs do, and no run has this name.
CAME = -1
NEW = (0, False, 0, 0, (), ())


class State:
    """What is certain of a sorter: what its root tells, and the lengths of its runs."""

    def __init__(self, told, lengths):
        # Rows that came, whether no more come, how many of them lie in runs that were made, names that were given.
        self.came, self.is_shut, self.made, self.named, merged, gone = told
        # By the names of the runs that are being merged, rising, how many rows of each are.
        self.merged = {name: many for name, many in merged}
        # The names of the runs whose merge ended last: their pages may still lie there.
        self.gone = gone
        self.lengths = lengths

    def told(self):
        """Tell what the root tells."""
        return (self.came, self.is_shut, self.made, self.named, tuple(self.merged.items()), self.gone)

    def twin(self):
        """Tell a state like this one, that may be changed while this one stays."""
        return State(self.told()[:-1] + ((),), {name: self.lengths[name] for name in self.lengths})

    def is_made(self):
        """Tell whether all runs are made of the rows that came."""
        return self.is_shut and self.made == self.came

    def is_done(self):
        """Tell whether nothing is left to be made or merged."""
        return self.is_made() and len(self.lengths) < 2

    def many_merged(self):
        """Tell how many rows the merge under way has made."""
        return sum(self.merged.values())

    def shortest(self, many):
        """Tell the names, rising, of so many runs: the shortest ones, of like ones those of lesser names."""
        ranked = sorted([(self.lengths[name], name) for name in self.lengths])
        return sorted([name for _, name in ranked[:many]])

    def add_made(self, rows):
        """Take a run that was made, of so many rows, for certain."""
        self.lengths[self.named] = rows
        self.made += rows
        self.named += 1

    def end_merge(self):
        """Take the run that the merge under way has made in place of those that were merged."""
        self.gone = tuple(self.merged)
        rows = self.many_merged()
        for name in self.gone:
            del self.lengths[name]
        self.lengths[self.named] = rows
        self.merged = {}
        self.named += 1


class Store:
    """The pages of a sorter on its disk."""

    def __init__(self, disk, made_of, page):
        root = disk.read(ROOT)
        if root is not None and root[0] != made_of:
            raise BadRoom("the disk is of a sorter that was made of others")
        self.disk = disk
        self.made_of = made_of
        self.page = page
        self.state = State(NEW if root is None else root[1:], {})
        # By name and place the block of each page, and the blocks in which none lies.
        self.lying = {}
        self.empty = []
        self.take_found()
        if root is None:
            self.commit(self.state)
        else:
            # A deed that was stopped may have left pages that no root tells of, or any more.
            self.sweep()

    def take_found(self):
        """Take the blocks as they are found, and the lengths of the runs as their pages tell them."""
        lengths = self.state.lengths
        for name, many in self.state.merged.items():
            # The pages that are merged lie there no more, and those may be all.
            lengths[name] = many
        for block in range(ROOT + 1, MANY_BLOCKS):
            what = self.disk.read(block)
            if what is None:
                heappush(self.empty, block)
                continue
            name, place, told = what
            self.lying[(name, place)] = block
            if 0 <= name < self.state.named and name not in self.state.gone:
                lengths[name] = max(lengths.get(name, 0), place * self.page + len(told))

    def is_needed(self, name, place):
        """Tell whether a page holds rows that the state tells of, and that lie nowhere else."""
        state, begin = self.state, place * self.page
        if name == CAME:
            return begin < state.came and not state.is_made()
        if name == state.named:
            return begin < state.many_merged()
        return name in state.lengths and min(begin + self.page, state.lengths[name]) > state.merged.get(name, 0)

    def lay(self, name, place, told):
        """Write a page; it isn't certain ahead of the next commit."""
        if (name, place) not in self.lying:
            self.lying[(name, place)] = heappop(self.empty)
        self.disk.write(self.lying[(name, place)], (name, place, tuple(told)))

    def look(self, name, place):
        """Tell the (number, row) of a page."""
        return self.disk.read(self.lying[(name, place)])[2]

    def look_at_came(self, place):
        """Tell the (number, row) of a page of the rows that came, without those of a put that was stopped."""
        return self.look(CAME, place)[:self.state.came - place * self.page]

    def has_all(self, name):
        """Tell whether all pages of a run that were written are there still."""
        blocks = [self.lying[key] for key in self.lying if key[0] == name]
        return all([self.disk.read(block) is not None for block in blocks])

    def numbers_made(self):
        """Tell the numbers of the rows that lie in the runs that were made, as the keys of a dict."""
        made = {}
        for name, place in self.lying:
            if 0 <= name < self.state.named:
                for number, _ in self.look(name, place):
                    made[number] = True
        return made

    def commit(self, state):
        """Make a state certain: its pages first, then the root that tells of them; then let go of other pages."""
        self.disk.settle()
        self.disk.write(ROOT, (self.made_of,) + state.told())
        self.disk.settle()
        self.state = state
        self.sweep()

    def sweep(self):
        """Let go of the pages that aren't needed."""
        others = [key for key in self.lying if not self.is_needed(key[0], key[1])]
        for key in others:
            block = self.lying.pop(key)
            self.disk.write(block, None)
            heappush(self.empty, block)
        if others:
            self.disk.settle()
