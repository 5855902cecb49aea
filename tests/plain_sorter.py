"""What a sorter has, page by page, as the document tells it: what the tests of a sorter compare with."""

from runsorts.disk import Disk
from runsorts.sorter import Sorter
from samples import in_order, is_ahead, plainly_exchanged, rows_of

KINDS = ("number", "word")
ORDER = [(1, "down"), (0, "up")]

# (room, page, ways), at the edges and between.
SIZES = [(3, 1, 2), (24, 1, 2), (6, 1, 5), (24, 1, 5), (8, 2, 3), (11, 2, 2), (12, 3, 3), (24, 3, 5), (12, 4, 2),
         (24, 4, 5), (17, 4, 3)]


def pages(many, page):
    """Tell how many pages so many rows lie in."""
    return -(-many // page)


class Stage:
    """What a sorter has behind some steps."""

    def __init__(self, page, live, made, merging=(), reads=0, writes=0, anew=0):
        self.page = page
        # Of each run, by its name, its rows; whether all runs are made.
        self.live = dict(live)
        self.made = made
        # The names of the runs that are being merged, and the rows that are merged.
        self.merging, self.rows = merging if merging else ([], [])
        self.reads, self.writes = reads, writes
        # How many steps ahead a sorter stands that goes on from here: those of a run that isn't over are made anew.
        self.anew = anew
        self.kept = {}
        taken = {number: True for number, _ in self.rows}
        self.merged = {name: sum(number in taken for number, _ in run) for name, run in self.live.items()}

    def told_runs(self):
        return sorted((name, len(rows)) for name, rows in self.live.items())

    def under_way(self):
        return (sorted(self.merging), len(self.rows)) if self.merging else None

    def is_done(self):
        return self.made and len(self.live) < 2

    def at(self, name):
        """Tell how many rows of a run are merged."""
        return self.merged[name]

    def sources(self):
        """Tell (rows, at which of them it stands) of each run and of what the merge under way has made."""
        told = [(rows, self.at(name)) for name, rows in self.live.items()]
        return told + ([(self.rows, 0)] if self.rows else [])

    def firsts(self, order, counts):
        """Tell what first does of several counts; it is asked more than once, and worked out only once."""
        told = []
        for many in counts:
            if (repr(order), many) not in self.kept:
                self.kept[(repr(order), many)] = self.first(order, many)
            told.append(self.kept[(repr(order), many)])
        return told

    def first(self, order, many):
        """Tell what first does, page by page."""
        told, looked, open_ones = [], 0, []
        for rows, at in self.sources() if many else []:
            if at < len(rows):
                looked += 1
                open_ones.append([rows, at, (at // self.page + 1) * self.page])
        while len(told) < many and open_ones:
            best = open_ones[0]
            for other in open_ones[1:]:
                if is_ahead(order, other[0][other[1]], best[0][best[1]]):
                    best = other
            told.append(best[0][best[1]])
            best[1] += 1
            if best[1] == len(best[0]):
                open_ones.remove(best)
            elif best[1] == best[2] and len(told) < many:
                best[2] += self.page
                looked += 1
        return told, looked

    def left_to_read(self):
        """Tell how many pages the merge under way looks at if it is gone on with here."""
        return sum(pages(len(self.live[name]), self.page) - self.at(name) // self.page for name in self.merging
                   if self.at(name) < len(self.live[name]))

    def most_pages(self, came):
        """Tell how many pages there are: of runs where they aren't merged yet, of the merge, of rows that came."""
        many = 0 if self.made else pages(came, self.page)
        for rows, at in self.sources():
            many += pages(len(rows), self.page) - at // self.page
        return many


def stages(order, room, page, ways, rows):
    """Tell the stages behind none, one and more steps."""
    runs = plainly_exchanged(order, room - 2 * page, rows)
    live, told = {}, [Stage(page, {}, not runs)]
    for name, run in enumerate(runs):
        begun = len(told) - 1
        for at in range(page, len(run), page):
            told.append(Stage(page, live, False, anew=len(told) - begun))
        live[name] = run
        told.append(Stage(page, live, name == len(runs) - 1))
    name, reads, writes = len(runs), 0, 0
    while len(live) > 1:
        many = 2 + (len(live) - 2) % (ways - 1)
        names = sorted(live, key=lambda name: (len(live[name]), name))[:many]
        merged = in_order(order, [entry for name in names for entry in live[name]])
        for at in range(page, len(merged), page):
            writes += 1
            told.append(Stage(page, live, True, (names, merged[:at]), reads, writes))
        writes += 1
        reads += sum(pages(len(live.pop(name)), page) for name in names)
        live[name] = merged
        told.append(Stage(page, live, True, (), reads, writes))
        name += 1
    return told


def made_sorter(size, rows, order=ORDER, kinds=KINDS, at_once=40):
    """Tell a disk and a sorter on it, to which rows came, so many at once, and that is shut."""
    disk = Disk()
    sorter = Sorter(disk, kinds, order, *size)
    for at in range(0, len(rows), at_once):
        sorter.put(rows[at:at + at_once])
    sorter.shut()
    return disk, sorter


def finish(sorter):
    """Step to the end, which is never further than this; a wrong sorter may have none."""
    for _ in range(3000):
        if not sorter.step():
            return
    raise AssertionError("there is no end")


def like(disk):
    """Tell a disk with the same settled blocks."""
    other = Disk()
    for block, what in enumerate(disk.blocks()):
        other.write(block, what)
    other.settle()
    return other


def descending(many):
    """Tell rows that make the most runs in ORDER: each goes ahead of all that came."""
    return [(many - at, "") for at in range(many)]


def batches():
    """Tell lists of rows of several numbers and kinds of order."""
    return [[], rows_of(KINDS, 1, 5), rows_of(KINDS, 2, 9), descending(2), rows_of(KINDS, 7, 3), descending(13),
            rows_of(KINDS, 41, 1), rows_of(KINDS, 120, 2), descending(120), descending(120)[::-1], [(0, "a")] * 30]
