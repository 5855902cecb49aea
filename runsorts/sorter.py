"""A sorter: rows that come are made to runs on a disk, and the runs merged, page by page, behind any stop."""

from runsorts.errors import BadCount, BadRoom, NotYet, Shut, Stopped
from runsorts.joining import Join
from runsorts.making import Maker
from runsorts.orders import MOST_ROWS, check_kinds, check_order, check_rows, is_number
from runsorts.plans import how_many
from runsorts.runs import MOST_ROOM
from runsorts.store import CAME, ROOT, Store

MOST_PAGE = 4
LEAST_WAYS = 2
MOST_WAYS = 5
MOST_PUT = 40
MOST_FIRST = 100


def check_sizes(room, page, ways):
    """Refuse a room, a page and ways that don't go together."""
    if not all([is_number(size) for size in (room, page, ways)]):
        raise BadRoom("a room, a page and ways are numbers")
    if not 1 <= page <= MOST_PAGE or not LEAST_WAYS <= ways <= MOST_WAYS:
        raise BadRoom("a page has 1 to 4 rows, and 2 to 5 runs are merged at a time")
    if not (ways + 1) * page <= room <= MOST_ROOM:
        raise BadRoom("a room holds a page of each run that is merged, one more, and at most 24 rows")


class Sorter:
    """Puts rows in order, with as many of them in the room as it holds, and the others on its disk."""

    def __init__(self, disk, kinds, order, room, page, ways):
        # The disk is handed in first, so that one that has stopped is refused ahead of all else.
        disk.read(ROOT)
        check_kinds(kinds)
        check_order(kinds, order)
        check_sizes(room, page, ways)
        self.disk = disk
        self.kinds = kinds
        self.order = list(order)
        self.size = room - 2 * page
        self.page = page
        self.ways = ways
        self.store = Store(disk, (kinds, tuple(order), room, page, ways), page)
        self.maker = None
        self.joining = None
        self.looked = 0
        self.laid = 0
        self.most = 0
        self.is_amid = False

    def put(self, rows):
        """Let rows come, and tell the number of the first one."""
        check_rows(self.kinds, rows, MOST_PUT)
        state = self.store.state
        if state.is_shut:
            raise Shut("no more rows come")
        if state.came + len(rows) > MOST_ROWS:
            raise BadCount("at most 120 rows come")
        self.begin_deed()
        self.lay_came(state.came, rows)
        after = state.twin()
        after.came += len(rows)
        self.store.commit(after)
        self.note_rows(min(len(rows), self.page))
        self.end_deed()
        return state.came

    def shut(self):
        """Let no more rows come."""
        if self.store.state.is_shut:
            raise Shut("no more rows come already")
        self.begin_deed()
        after = self.store.state.twin()
        after.is_shut = True
        self.store.commit(after)
        self.end_deed()

    def step(self):
        """Do a page's work, and tell whether there was some."""
        state = self.store.state
        if not state.is_shut:
            raise NotYet("rows may still come")
        self.begin_deed()
        had_work = not state.is_done()
        if not state.is_made():
            self.make_page()
        elif had_work:
            self.merge_page()
        self.end_deed()
        return had_work

    def is_done(self):
        """Tell whether all rows are in one run, or there are none."""
        return self.store.state.is_done()

    def rows(self):
        """Tell all (number, row) in order."""
        if not self.is_done():
            raise NotYet("the rows aren't in order yet")
        return self.join_of_all().take(MOST_ROWS)

    def told_runs(self):
        """Tell (name, how many rows) of all runs that are settled."""
        return sorted(self.store.state.lengths.items())

    def under_way(self):
        """Tell (the names of the runs that are being merged, how many rows are), if some are."""
        state = self.store.state
        if not state.merged:
            return None
        return sorted(state.merged), state.many_merged()

    def first(self, many):
        """Tell (the first so many (number, row) of all, at how many pages that took a look)."""
        if not is_number(many) or not 0 <= many <= MOST_FIRST:
            raise BadCount("the first 0 to 100 rows are told")
        if not self.store.state.is_made():
            raise NotYet("not all runs are made yet")
        join = self.join_of_all()
        return join.take(many), join.looked

    def counts(self):
        """Tell (pages read, pages written) by merges."""
        return self.looked, self.laid

    def most_rows(self):
        """Tell the most rows that were in the room at once."""
        return self.most

    def free(self):
        """Tell how many blocks nothing settled lies in."""
        return self.disk.blocks().count(None)

    def begin_deed(self):
        """Begin what writes, or refuse it where the disk has stopped, now or amid such a deed."""
        if self.is_amid:
            raise Stopped("the disk stopped, and another sorter may go on")
        self.is_amid = True
        self.disk.read(ROOT)

    def end_deed(self):
        """End what writes: the disk hasn't stopped amid it."""
        self.is_amid = False

    def note_rows(self, many):
        """Note that so many rows were in the room at once."""
        self.most = max(self.most, many)

    def lay_came(self, came, rows):
        """Lay rows behind those that came, the first ones into the page that isn't full yet."""
        last = came + len(rows)
        for place in range(came // self.page, (last + self.page - 1) // self.page):
            begin, end = place * self.page, min((place + 1) * self.page, last)
            told = [(number, rows[number - came]) for number in range(max(begin, came), end)]
            if begin < came:
                told = list(self.store.look_at_came(place)) + told
            self.store.lay(CAME, place, told)

    def make_page(self):
        """Make a page of a run; it is settled with its last one."""
        if self.maker is None:
            self.maker = Maker(self.store, self.order, self.size)
        maker, state = self.maker, self.store.state
        place = maker.many // self.page
        self.store.lay(state.named, place, maker.next_page())
        self.note_rows(maker.most)
        if not maker.room.is_over():
            return
        if not self.store.has_all(state.named):
            # The disk has let go of pages that weren't settled, and runs again: the run is made anew.
            self.maker = None
            return
        after = state.twin()
        after.add_made(maker.many)
        self.store.commit(after)
        maker.begin_next()

    def merge_page(self):
        """Merge a page of the runs that are to be merged; it is settled."""
        state = self.store.state
        after = state.twin()
        if self.joining is None:
            self.joining = self.join_to_merge()
        join = self.joining
        looked = join.looked
        self.store.lay(state.named, state.many_merged() // self.page, join.take(self.page))
        self.note_rows(join.most)
        self.looked += join.looked - looked
        self.laid += 1
        after.merged = {name: join.at[name] for name in join.at}
        if join.is_over():
            after.end_merge()
            self.joining = None
        self.store.commit(after)

    def join_to_merge(self):
        """Tell the runs that are to be merged now, from where they aren't merged yet."""
        state = self.store.state
        names = sorted(state.merged) or state.shortest(how_many(len(state.lengths), self.ways))
        return Join(self.store, self.order, state.merged, {name: state.lengths[name] for name in names})

    def join_of_all(self):
        """Tell all runs from where they aren't merged yet, and what the merge under way has made."""
        state = self.store.state
        ends = {name: state.lengths[name] for name in state.lengths}
        if state.merged:
            ends[state.named] = state.many_merged()
        return Join(self.store, self.order, state.merged, ends)
