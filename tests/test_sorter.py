"""A Sorter that nothing stops: what comes of rows, step by step, and all that is told of it."""

import copy
import unittest

from plain_sorter import KINDS, ORDER, SIZES, Stage, batches, descending, finish, like, made_sorter, pages, stages
from runsorts.disk import Disk
from runsorts.plans import cheapest, cost
from runsorts.runs import exchanged
from runsorts.sorter import Sorter
from samples import EVERY_KINDS, in_order, orders_of, rows_of

METHODS = ("put", "shut", "step", "rows", "told_runs", "under_way", "is_done", "first", "counts", "most_rows", "free")


class Case(unittest.TestCase):
    def check(self, sorter, stage, order=ORDER):
        """Looks whether a sorter tells what it does at a stage, twice."""
        for many in ((0, 2, 24), (1, 5, 2, 100)):
            self.assertEqual(sorter.told_runs(), stage.told_runs())
            self.assertEqual(sorter.under_way(), stage.under_way())
            self.assertIs(sorter.is_done(), stage.is_done())
            if stage.made:
                self.assertEqual([sorter.first(wanted) for wanted in many], stage.firsts(order, many))
            if stage.is_done():
                rows = list(stage.live.values())
                self.assertEqual(sorter.rows(), rows[0] if rows else [])


class Interface(Case):
    def test_the_class_has_its_methods_itself(self):
        self.assertEqual(Sorter.__module__, "runsorts.sorter")
        for name in METHODS:
            self.assertIn(name, vars(Sorter))

    def test_arguments_have_their_names(self):
        sorter = Sorter(disk=Disk(), kinds=KINDS, order=ORDER, room=3, page=1, ways=2)
        self.assertEqual(sorter.put(rows=[(1, "a")]), 0)
        sorter.shut()
        sorter.step()
        self.assertEqual(sorter.first(many=1), ([(0, (1, "a"))], 1))

    def test_kinds_of_values(self):
        sorter = Sorter(Disk(), KINDS, ORDER, 3, 1, 2)
        self.assertIs(type(sorter.put(descending(8))), int)
        self.assertIsNone(sorter.shut())
        for _ in range(9):
            self.assertIs(sorter.step(), True)
        names, many = sorter.under_way()
        self.assertEqual([type(names), type(many)], [list, int])
        self.assertIs(type(sorter.under_way()), tuple)
        self.assertEqual([type(run) for run in sorter.told_runs()], [tuple] * 8)
        self.assertIs(type(sorter.told_runs()), list)
        told = sorter.first(3)
        self.assertEqual([type(told), type(told[0]), type(told[1])], [tuple, list, int])
        self.assertEqual([type(entry) for entry in told[0]], [tuple] * 3)
        self.assertEqual([type(part) for part in sorter.counts()], [int, int])
        self.assertIs(type(sorter.counts()), tuple)
        self.assertEqual([type(sorter.most_rows()), type(sorter.free())], [int, int])
        while sorter.step():
            self.assertIs(sorter.is_done(), sorter.told_runs() == [(14, 8)])
        self.assertIs(sorter.step(), False)
        self.assertIs(type(sorter.rows()), list)


class Rows(Case):
    def test_all_come_to_the_rows_in_order(self):
        for kinds in EVERY_KINDS:
            for at, order in enumerate(orders_of(kinds)):
                rows = rows_of(kinds, 60, at)
                size = SIZES[at % len(SIZES)]
                with self.subTest(kinds=kinds, order=order, size=size):
                    _, sorter = made_sorter(size, rows, order, kinds, at_once=17)
                    finish(sorter)
                    self.assertEqual(sorter.rows(), in_order(order, list(enumerate(rows))))

    def test_rows_are_numbered_as_they_come_however_they_are_put(self):
        rows = rows_of(KINDS, 120, 8)
        for size in SIZES:
            for puts in ([40, 40, 40], [1] * 120, [7, 0, 33, 3, 40, 0, 37], [3] * 40, [39, 2, 39, 40]):
                with self.subTest(size=size, puts=puts):
                    sorter, came = Sorter(Disk(), KINDS, ORDER, *size), 0
                    for many in puts:
                        self.assertEqual(sorter.put(rows[came:came + many]), came)
                        came += many
                    self.assertEqual(sorter.put([]), 120)
                    sorter.shut()
                    finish(sorter)
                    self.assertEqual(sorter.rows(), in_order(ORDER, list(enumerate(rows))))

    def test_no_rows_are_done_at_once(self):
        for puts in ([], [0], [0, 0]):
            sorter = Sorter(Disk(), KINDS, ORDER, 3, 1, 2)
            for _ in puts:
                self.assertEqual(sorter.put([]), 0)
            self.assertIs(sorter.is_done(), False)
            sorter.shut()
            self.check(sorter, Stage(1, {}, True))
            self.assertEqual([sorter.rows(), sorter.told_runs(), sorter.under_way()], [[], [], None])
            self.assertEqual([sorter.step(), sorter.step()], [False, False])
            self.assertEqual([sorter.first(100), sorter.counts(), sorter.most_rows()], [([], 0), (0, 0), 0])


class Steps(Case):
    def test_each_step_does_a_page_and_what_is_told_behind_it(self):
        for size in SIZES:
            for rows in batches():
                with self.subTest(size=size, rows=len(rows)):
                    told = stages(ORDER, *size, rows)
                    disk, sorter = made_sorter(size, rows)
                    self.check(sorter, told[0])
                    for stage in told[1:]:
                        self.assertIs(sorter.step(), True)
                        self.check(sorter, stage)
                    for _ in range(2):
                        self.assertIs(sorter.step(), False)
                        self.check(sorter, told[-1])

    def test_runs_are_made_by_exchanging_of_a_room_of_two_pages_less(self):
        for size in SIZES:
            rows = rows_of(KINDS, 90, 6)
            _, sorter = made_sorter(size, rows)
            runs = exchanged(KINDS, ORDER, size[0] - 2 * size[1], rows)
            while len(sorter.told_runs()) < len(runs):
                self.assertIsNone(sorter.under_way())
                sorter.step()
            self.assertEqual(sorter.told_runs(), [(name, len(run)) for name, run in enumerate(runs)])

    def test_as_many_rows_are_moved_as_cheapest_tells(self):
        for size in SIZES:
            for rows in batches():
                runs = exchanged(KINDS, ORDER, size[0] - 2 * size[1], rows)
                if 1 <= len(runs) <= 40:
                    with self.subTest(size=size, rows=len(rows)):
                        self.check_moved(size, rows, [len(run) for run in runs])

    def check_moved(self, size, rows, lengths):
        """Puts together the plan that was followed of the merges that were told."""
        _, sorter = made_sorter(size, rows)
        plans, moved, ahead = dict(enumerate(range(len(lengths)))), 0, {}
        while sorter.step():
            now = dict(sorter.told_runs())
            gone = [name for name in ahead if name not in now]
            if gone:
                made = max(now)
                plans[made] = tuple(plans[name] for name in gone)
                moved += now[made]
            ahead = now
        self.assertEqual(moved, cheapest(lengths, size[2])[0])
        self.assertEqual(cost(lengths, size[2], plans[max(ahead)]), moved)

    def test_the_shortest_are_merged_of_like_ones_those_of_lesser_names(self):
        rows = [(at, "") for at in (9, 8, 7, 6, 5, 5, 5, 4, 3, 3)]
        _, sorter = made_sorter((4, 1, 3), rows, [(0, "up")])
        told = [sorter.told_runs()]
        while sorter.step():
            if sorter.told_runs() != told[-1]:
                told.append(sorter.told_runs())
        made = exchanged(KINDS, [(0, "up")], 2, rows)
        self.assertEqual([len(run) for run in made], [2, 2, 3, 3])
        self.assertEqual(told[len(made):], [[(0, 2), (1, 2), (2, 3), (3, 3)], [(2, 3), (3, 3), (4, 4)], [(5, 10)]])

    def test_what_is_told_before_shut(self):
        sorter = Sorter(Disk(), KINDS, ORDER, 8, 2, 3)
        for _ in range(3):
            sorter.put(rows_of(KINDS, 40, 3))
            self.assertEqual([sorter.told_runs(), sorter.under_way(), sorter.is_done()], [[], None, False])


class HandedInAndTold(Case):
    def test_what_is_handed_in_is_not_changed_and_may_be_changed_later(self):
        order, rows = list(ORDER), rows_of(KINDS, 40, 4)
        kept = copy.deepcopy((order, rows))
        sorter = Sorter(Disk(), KINDS, order, 8, 2, 3)
        sorter.put(rows)
        self.assertEqual((order, rows), kept)
        order[0] = (0, "down")
        order.pop()
        rows[0] = (999, "zz")
        rows.clear()
        sorter.put(kept[1])
        sorter.shut()
        finish(sorter)
        self.assertEqual(sorter.rows(), in_order(ORDER, list(enumerate(kept[1] * 2))))

    def test_what_is_told_is_new_each_time(self):
        _, sorter = made_sorter((8, 2, 3), rows_of(KINDS, 60, 4))
        while sorter.under_way() is None:
            sorter.step()
        told = [sorter.told_runs(), sorter.under_way(), sorter.first(30)]
        kept = copy.deepcopy(told)
        told[0].clear()
        told[1][0].append(7)
        told[2][0].pop(3)
        self.assertEqual([sorter.told_runs(), sorter.under_way(), sorter.first(30)], kept)
        finish(sorter)
        rows = sorter.rows()
        kept = list(rows)
        rows.reverse()
        rows.pop()
        self.assertEqual(sorter.rows(), kept)

    def test_two_sorters_on_disks_of_their_own(self):
        one, other = rows_of(KINDS, 60, 1), rows_of(KINDS, 70, 2)
        sorters = [Sorter(Disk(), KINDS, ORDER, 8, 2, 3), Sorter(Disk(), KINDS, [(0, "down")], 24, 4, 5)]
        for at in range(0, 80, 20):
            sorters[0].put(one[at:at + 20])
            sorters[1].put(other[at:at + 20])
        told = [stages(ORDER, 8, 2, 3, one), stages([(0, "down")], 24, 4, 5, other)]
        sorters[0].shut()
        sorters[1].shut()
        for at in range(max(len(told[0]), len(told[1]))):
            self.check(sorters[0], told[0][min(at, len(told[0]) - 1)])
            self.check(sorters[1], told[1][min(at, len(told[1]) - 1)], [(0, "down")])
            sorters[0].step()
            sorters[1].step()


class Anew(Case):
    def test_one_made_of_the_disk_or_one_like_it_goes_on(self):
        for size in SIZES:
            rows = rows_of(KINDS, 33, 7)
            told = stages(ORDER, *size, rows)
            disk, sorter = made_sorter(size, rows)
            for at, stage in enumerate(told):
                with self.subTest(size=size, at=at):
                    anew = Sorter(like(disk), KINDS, ORDER, *size)
                    self.check(anew, stage)
                    self.assertEqual(anew.free(), sorter.free())
                    self.assertEqual([anew.counts(), anew.most_rows()], [(0, 0), 0])
                    for by, later in enumerate(told[at - stage.anew + 1:]):
                        self.assertIs(anew.step(), True)
                        if at % 9 == 0 or by < 3:
                            self.check(anew, later)
                    self.assertIs(anew.step(), False)
                    self.check(anew, told[-1])
                sorter.step()

    def test_one_made_of_the_disk_while_it_runs(self):
        for size in SIZES:
            rows = rows_of(KINDS, 50, 7)
            told = stages(ORDER, *size, rows)
            disk, sorter = made_sorter(size, rows)
            at, steps = 0, 0
            while True:
                anew = Sorter(disk, KINDS, ORDER, *size)
                at -= told[at].anew
                self.check(anew, told[at])
                for _ in range(1 + steps * 3):
                    if anew.step():
                        at += 1
                        self.check(anew, told[at])
                steps += 1
                if at == len(told) - 1:
                    break

    def test_one_that_goes_on_before_shut(self):
        rows = rows_of(KINDS, 120, 3)
        for size in SIZES:
            disk, came = Disk(), 0
            for many in (0, 5, 1, 40, 2, 3, 29, 40):
                sorter = Sorter(disk, KINDS, ORDER, *size)
                free = sorter.free()
                self.assertEqual(Sorter(like(disk), KINDS, ORDER, *size).free(), free)
                self.assertEqual(sorter.put(rows[came:came + many]), came)
                came += many
            sorter = Sorter(disk, KINDS, ORDER, *size)
            self.assertEqual(sorter.put([]), 120)
            sorter.shut()
            sorter = Sorter(disk, KINDS, ORDER, *size)
            while sorter.step():
                sorter.step()
            self.assertEqual(sorter.rows(), in_order(ORDER, list(enumerate(rows))))

    def test_one_that_is_made_of_the_same_writes_nothing(self):
        disk, sorter = made_sorter((8, 2, 3), rows_of(KINDS, 50, 7))
        while True:
            blocks = disk.blocks()
            other = like(disk)
            other.arm(0, [])
            Sorter(other, KINDS, ORDER, 8, 2, 3)
            self.assertEqual(other.blocks(), blocks)
            if not sorter.step():
                break


class Room(Case):
    """counts, most_rows, free."""

    def test_pages_read_and_written_by_merges(self):
        for size in SIZES:
            for rows in batches():
                with self.subTest(size=size, rows=len(rows)):
                    _, sorter = made_sorter(size, rows)
                    ahead, told = 0, stages(ORDER, *size, rows)
                    for stage in told:
                        read, written = sorter.counts()
                        self.assertEqual(written, stage.writes)
                        self.assertEqual(sorter.counts(), (read, written))
                        if not stage.merging:
                            self.assertEqual(read, stage.reads)
                        else:
                            # Those in which it stands are read, and it may have read those that come next.
                            most = sum(pages(len(stage.live[name]), size[1]) for name in stage.merging)
                            self.assertLessEqual(stage.reads + most - stage.left_to_read(), read)
                            self.assertLessEqual(read, stage.reads + most - stage.left_to_read() + len(stage.merging))
                        self.assertLessEqual(ahead, read)
                        ahead = read
                        sorter.step()

    def test_pages_read_by_one_that_goes_on_with_a_merge(self):
        for size in SIZES:
            rows = rows_of(KINDS, 60, 11)
            told = stages(ORDER, *size, rows)
            disk, sorter = made_sorter(size, rows)
            for stage in told:
                if stage.made:
                    anew = Sorter(like(disk), KINDS, ORDER, *size)
                    finish(anew)
                    behind = [later for later in told if not later.merging and later.writes > stage.writes]
                    read = stage.left_to_read()
                    if behind:
                        read += told[-1].reads - (behind[0].reads if stage.merging else stage.reads)
                    with self.subTest(size=size, writes=stage.writes):
                        self.assertEqual(anew.counts(), (read, told[-1].writes - stage.writes))
                sorter.step()

    def test_first_and_rows_count_as_no_merge(self):
        _, sorter = made_sorter((8, 2, 3), rows_of(KINDS, 50, 7))
        while sorter.step():
            counts, most = sorter.counts(), sorter.most_rows()
            if sorter.told_runs() and sum(many for _, many in sorter.told_runs()) == 50:
                sorter.first(100)
            self.assertEqual((sorter.counts(), sorter.most_rows()), (counts, most))
        counts = sorter.counts()
        sorter.rows()
        self.assertEqual(sorter.counts(), counts)

    def test_the_most_rows_of_a_put(self):
        for page in range(1, 5):
            for puts in ([], [0], [1], [2], [3], [4], [5], [40], [1, 2, 1], [3, 1], [2, 40, 1]):
                sorter = Sorter(Disk(), KINDS, ORDER, 24, page, 2)
                for many in puts:
                    sorter.put(rows_of(KINDS, many, 1))
                with self.subTest(page=page, puts=puts):
                    self.assertEqual(sorter.most_rows(), min(max(puts, default=0), page))

    def test_the_most_rows_while_runs_are_made(self):
        for size in SIZES:
            for many in (1, 2, 5, 16, 22, 60, 120):
                disk, sorter = made_sorter(size, rows_of(KINDS, many, 4))
                self.assertEqual(Sorter(like(disk), KINDS, ORDER, *size).most_rows(), 0)
                sorter.step()
                with self.subTest(size=size, many=many):
                    self.assertEqual(sorter.most_rows(), min(size[0] - 2 * size[1], many) + 2 * size[1])

    def test_the_most_rows_while_the_last_runs_are_made(self):
        size, rows = (8, 2, 3), descending(10)
        disk, sorter = made_sorter(size, rows)
        for _ in range(4):
            sorter.step()
        self.assertEqual(sorter.told_runs(), [(0, 4), (1, 4)])
        anew = Sorter(disk, KINDS, ORDER, *size)
        anew.step()
        self.assertEqual(anew.told_runs(), [(0, 4), (1, 4), (2, 2)])
        self.assertEqual(anew.most_rows(), 2 + 4)

    def test_the_most_rows_of_merges(self):
        for size in SIZES:
            disk, sorter = made_sorter(size, descending(120))
            while len(sorter.told_runs()) < pages(120, size[0] - 2 * size[1]):
                sorter.step()
            anew = Sorter(like(disk), KINDS, ORDER, *size)
            while anew.step():
                self.assertLessEqual(anew.most_rows(), (size[2] + 1) * size[1])
            with self.subTest(size=size):
                self.assertEqual(anew.most_rows(), (min(size[2], 120) + 1) * size[1])

    def test_pages_that_are_not_full_count_as_they_are(self):
        disk, sorter = made_sorter((12, 4, 2), descending(5))
        for _ in range(2):
            sorter.step()
        self.assertEqual(sorter.told_runs(), [(0, 4), (1, 1)])
        anew = Sorter(disk, KINDS, ORDER, 12, 4, 2)
        anew.step()
        # The page of one row is over with the first that goes out; that of four lies there with four that go out.
        self.assertEqual(anew.most_rows(), 4 + 4)

    def test_never_more_than_it_holds(self):
        for size in SIZES:
            for rows in batches():
                _, sorter = made_sorter(size, rows)
                while sorter.step():
                    self.assertLessEqual(sorter.most_rows(), size[0])
                    self.assertLessEqual(rows_kept(sorter), size[0])
                if len(rows) >= size[0]:
                    self.assertEqual(sorter.most_rows(), size[0])

    def test_blocks_that_are_used_and_free(self):
        for size in SIZES:
            for rows in batches():
                with self.subTest(size=size, rows=len(rows)):
                    disk, sorter = made_sorter(size, rows, at_once=3)
                    for stage in stages(ORDER, *size, rows):
                        self.assertEqual(sorter.free(), disk.blocks().count(None))
                        self.assertLessEqual(600 - sorter.free(), stage.most_pages(len(rows)) + 40)
                        sorter.step()

    def test_blocks_that_are_used_by_rows_that_come(self):
        for size in SIZES:
            disk = Disk()
            sorter = Sorter(disk, KINDS, ORDER, *size)
            for came in range(121):
                self.assertEqual(sorter.free(), disk.blocks().count(None))
                self.assertLessEqual(600 - sorter.free(), pages(came, size[1]) + 40)
                if came < 120:
                    sorter.put([(came, "a")])

    def test_blocks_are_free_again(self):
        disk, sorter = made_sorter((3, 1, 2), descending(120))
        frees = [sorter.free()]
        while sorter.step():
            frees.append(sorter.free())
        self.assertEqual(frees[0], frees[120])
        self.assertEqual(frees[0], frees[-1])
        self.assertEqual(frees[0] - 119, frees[119])


def rows_kept(sorter):
    """Tell how many (number, row) a sorter keeps off its disk, wherever in it they are."""
    left, seen, many = [sorter], {}, 0
    while left:
        part = left.pop()
        if isinstance(part, Disk) or id(part) in seen:
            continue
        seen[id(part)] = part
        if isinstance(part, tuple) and len(part) == 2 and isinstance(part[0], int) and isinstance(part[1], tuple):
            many += len(part[1]) == len(KINDS) and isinstance(part[1][1], str)
        if isinstance(part, dict):
            left.extend(part.values())
        elif isinstance(part, (list, tuple)):
            left.extend(part)
        elif hasattr(part, "__dict__"):
            left.extend(vars(part).values())
    return many


if __name__ == "__main__":
    unittest.main()
