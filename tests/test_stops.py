"""A disk that stops at any deed of a Sorter, and what one that is made of it behind again has."""

import pickle
import unittest

from plain_sorter import KINDS, ORDER, SIZES, descending, finish, made_sorter, stages
from runsorts.disk import Disk
from runsorts.errors import NotYet, Stopped
from runsorts.sorter import Sorter
from samples import in_order, rows_of

PICKS = [[], [True] * 60, [True, False] * 30, [False, True] * 30, [False] + [True] * 59, [False, False, True] * 20,
         [True] * 2, [False] * 30 + [True] * 30]


def twin(what):
    """Tell a copy of something, inner parts too."""
    return pickle.loads(pickle.dumps(what))


class Case(unittest.TestCase):
    def stops(self, disk, sorter, deed, picks):
        """Tells for each deed of the disk at which it stops such a disk, until all deeds are done."""
        deeds, packed = 0, pickle.dumps((disk, sorter))
        while True:
            other, that = pickle.loads(packed)
            other.arm(deeds, picks)
            try:
                deed(that)
                return
            except Stopped:
                self.is_at_its_end(other, that)
                yield other
            deeds += 1

    def is_at_its_end(self, disk, sorter):
        """Looks that nothing goes on ahead of again, nor this sorter behind it."""
        with self.assertRaises(Stopped):
            Sorter(disk, KINDS, ORDER, 3, 1, 2)
        disk.again()
        blocks = disk.blocks()
        if sorter is not None:
            for deed in (lambda: sorter.put([]), sorter.shut, sorter.step):
                with self.assertRaises(Exception) as caught:
                    deed()
                self.assertIn(type(caught.exception).__name__, ("Stopped", "Shut", "NotYet"))
        self.assertEqual(disk.blocks(), blocks)

    def told(self, sorter, stage):
        """Tells what a sorter tells at a stage, with what it would be."""
        made = [sorter.told_runs(), sorter.under_way(), sorter.is_done()]
        wanted = [stage.told_runs(), stage.under_way(), stage.is_done()]
        if stage.made:
            try:
                made += [sorter.first(3), sorter.first(100)]
            except Exception as refusal:
                made.append(refusal)
            wanted += stage.firsts(ORDER, (3, 100))
        return made, wanted

    def is_at(self, sorter, stage):
        made, wanted = self.told(sorter, stage)
        return made == wanted


class Making(Case):
    def test_a_stop_at_every_deed(self):
        for size in SIZES:
            for picks in PICKS:
                stopped = 0
                while True:
                    disk = Disk()
                    disk.arm(stopped, picks)
                    try:
                        Sorter(disk, KINDS, ORDER, *size)
                        break
                    except Stopped:
                        stopped += 1
                    self.is_at_its_end(disk, None)
                    sorter = Sorter(disk, KINDS, ORDER, *size)
                    self.assertEqual(sorter.free(), Sorter(Disk(), KINDS, ORDER, *size).free())
                    self.assertEqual(sorter.put(descending(9)), 0)
                    sorter.shut()
                    finish(sorter)
                    self.assertEqual(sorter.rows(), in_order(ORDER, list(enumerate(descending(9)))))
                self.assertGreater(stopped, 0)

    def test_a_stop_as_one_goes_on_behind_a_stop(self):
        size, rows = (6, 2, 2), descending(13)
        told = stages(ORDER, *size, rows)
        disk, sorter = made_sorter(size, rows)
        for at in range(len(told) - 1):
            for picks in PICKS[1:4]:
                for other in self.stops(disk, sorter, lambda that: that.step(), picks):
                    for again in PICKS[:4]:
                        self.go_on(other, size, again, told[at:at + 2], rows)
            sorter.step()

    def go_on(self, disk, size, picks, near, rows):
        """Stops a disk at the first deed of making a sorter of it, at the second, and so on, until it is made."""
        disk, deeds = twin(disk), 0
        while True:
            disk.arm(deeds, picks)
            try:
                sorter = Sorter(disk, KINDS, ORDER, *size)
                break
            except Stopped:
                disk.again()
            deeds += 1
        disk.arm(10 ** 6, [])
        self.assertTrue(any(self.is_at(sorter, stage) for stage in near))
        self.assertEqual(sorter.free(), disk.blocks().count(None))
        finish(sorter)
        self.assertEqual(sorter.rows(), in_order(ORDER, list(enumerate(rows))))


class Putting(Case):
    def test_a_stop_at_every_deed_of_put(self):
        for size in SIZES:
            for puts in ([0], [1], [40], [2, 40], [3, 1], [1, 2, 0], [7, 6, 5], [40, 40, 40]):
                disk, came = Disk(), 0
                sorter = Sorter(disk, KINDS, ORDER, *size)
                for many in puts[:-1]:
                    sorter.put(rows_of(KINDS, many, many))
                    came += many
                for picks in PICKS:
                    with self.subTest(size=size, puts=puts, picks=picks):
                        self.stopped_put(disk, sorter, size, puts, came, picks)

    def stopped_put(self, disk, sorter, size, puts, came, picks):
        rows = [row for many in puts for row in rows_of(KINDS, many, many)]
        free = {came: sorter.free()}
        other, that = twin((disk, sorter))
        that.put(rows[came:])
        free[len(rows)] = that.free()
        every = list(self.stops(disk, sorter, lambda that: that.put(rows[came:]), picks))
        for deeds, stopped in enumerate(every):
            anew = Sorter(stopped, KINDS, ORDER, *size)
            has = anew.put([])
            self.assertIn(has, (came, len(rows)))
            self.assertEqual(anew.free(), free[has])
            # Other rows may come in place of those that were let go.
            more = rows_of(KINDS, min(9, 120 - has), 5)
            self.assertEqual(anew.put(more), has)
            anew.shut()
            if deeds % 7 == came % 7 or deeds > len(every) - 4:
                finish(anew)
                self.assertEqual(anew.rows(), in_order(ORDER, list(enumerate(rows[:has] + more))))

    def test_a_stop_at_every_deed_of_shut(self):
        for size in SIZES:
            for many in (0, 1, 17):
                rows = rows_of(KINDS, many, 3)
                disk = Disk()
                sorter = Sorter(disk, KINDS, ORDER, *size)
                sorter.put(rows)
                for picks in PICKS:
                    for stopped in self.stops(disk, sorter, lambda that: that.shut(), picks):
                        anew, more = Sorter(stopped, KINDS, ORDER, *size), []
                        self.assertEqual(anew.free(), sorter.free())
                        if not self.is_shut(anew):
                            more = [(5, "x")]
                            self.assertEqual(anew.put(more), many)
                            anew.shut()
                        finish(anew)
                        self.assertEqual(anew.rows(), in_order(ORDER, list(enumerate(rows + more))))

    def test_what_is_refused_with_stopped_changes_nothing(self):
        disk = Disk()
        sorter = Sorter(disk, KINDS, ORDER, 8, 2, 3)
        sorter.put(rows_of(KINDS, 40, 3))
        ahead = [sorter.told_runs(), sorter.is_done(), sorter.most_rows()]
        disk.arm(1, [True])
        for _ in range(3):
            with self.assertRaises(Stopped):
                sorter.put(rows_of(KINDS, 40, 3))
        disk.again()
        for _ in range(3):
            # It isn't shut, and no more rows came than forty.
            with self.assertRaises(Stopped):
                sorter.put(rows_of(KINDS, 40, 3))
        self.assertEqual([sorter.told_runs(), sorter.is_done(), sorter.most_rows()], ahead)
        sorter = Sorter(disk, KINDS, ORDER, 8, 2, 3)
        disk.arm(0, [])
        for _ in range(3):
            with self.assertRaises(Stopped):
                sorter.shut()
            with self.assertRaises(NotYet):
                sorter.step()

    def is_shut(self, sorter):
        try:
            sorter.put([])
        except ValueError as refusal:
            self.assertEqual(type(refusal).__name__, "Shut")
            return True
        return False


class Stepping(Case):
    def check(self, size, rows, picks):
        """Stops at every deed of every step, and goes on to the end from each of them."""
        told = stages(ORDER, *size, rows)
        wanted = in_order(ORDER, list(enumerate(rows)))
        disk, sorter = made_sorter(size, rows)
        free = [sorter.free()]
        for at, stage in enumerate(told[:-1]):
            ahead = twin((disk, sorter))
            self.assertIs(sorter.step(), True)
            free.append(sorter.free())
            deeds = 0
            for stopped in self.stops(*ahead, lambda that: that.step(), picks):
                anew = Sorter(stopped, KINDS, ORDER, *size)
                has = at if self.is_at(anew, stage) else at + 1
                made, told_of = self.told(anew, told[has])
                self.assertEqual(made, told_of)
                has -= told[has].anew
                self.assertEqual(anew.free(), free[has])
                self.assertEqual((anew.counts(), anew.most_rows()), ((0, 0), 0))
                if deeds % 3 == at % 3:
                    self.to_the_end(anew, len(told) - 1 - has, wanted)
                deeds += 1

    def to_the_end(self, sorter, steps, wanted):
        """Looks that so many more steps come to the rows in order."""
        for _ in range(steps):
            self.assertIs(sorter.step(), True)
        self.assertIs(sorter.step(), False)
        self.assertEqual(sorter.rows(), wanted)

    def test_a_stop_at_every_deed(self):
        for size in SIZES:
            for many, picks in ((19, PICKS[0]), (13, PICKS[1]), (16, PICKS[2]), (11, PICKS[3]), (14, PICKS[4])):
                with self.subTest(size=size, many=many, picks=picks):
                    self.check(size, rows_of(KINDS, many, many), picks)

    def test_a_stop_at_every_deed_with_many_runs(self):
        for size in ((3, 1, 2), (4, 1, 3), (6, 2, 2), (12, 3, 3), (15, 3, 4)):
            for picks in PICKS:
                with self.subTest(size=size, picks=picks):
                    self.check(size, descending(13), picks)

    def test_a_stop_at_every_deed_of_the_last_step_of_runs_of_many_rows(self):
        rows = descending(120)[::-1]
        for size in ((24, 1, 5), (3, 1, 2), (24, 4, 5)):
            disk, sorter = made_sorter(size, rows)
            for _ in range(-(-120 // size[1]) - 1):
                sorter.step()
            self.assertEqual(sorter.told_runs(), [])
            for picks in PICKS:
                for stopped in self.stops(disk, sorter, lambda that: that.step(), picks):
                    anew = Sorter(stopped, KINDS, ORDER, *size)
                    self.assertIn(anew.told_runs(), ([], [(0, 120)]))
                    self.assertIs(anew.is_done(), anew.told_runs() != [])
                    self.assertEqual(anew.free(), stopped.blocks().count(None))
                    if not anew.is_done():
                        anew.step()
                        self.assertEqual(anew.most_rows(), size[0])

    def test_a_stop_between_the_deeds(self):
        for size in SIZES:
            rows = rows_of(KINDS, 31, 4)
            told = stages(ORDER, *size, rows)
            for picks in PICKS:
                disk, sorter = made_sorter(size, rows)
                for at, stage in enumerate(told):
                    other = twin(disk)
                    other.stop(picks)
                    other.again()
                    anew = Sorter(other, KINDS, ORDER, *size)
                    self.assertTrue(self.is_at(anew, stage))
                    if at % 7 == 3:
                        self.to_the_end(anew, len(told) - 1 - at + stage.anew, in_order(ORDER, list(enumerate(rows))))
                    sorter.step()

    def test_stops_again_and_again(self):
        for size in SIZES:
            rows = rows_of(KINDS, 60, 9)
            disk, sorter = made_sorter(size, rows)
            for deeds in range(3, 10 ** 6):
                disk.arm(deeds, PICKS[deeds % len(PICKS)])
                try:
                    finish(sorter)
                    break
                except Stopped:
                    disk.again()
                disk.arm(deeds // 2, PICKS[deeds // 3 % len(PICKS)])
                try:
                    sorter = Sorter(disk, KINDS, ORDER, *size)
                except Stopped:
                    disk.again()
                    sorter = Sorter(disk, KINDS, ORDER, *size)
            self.assertEqual(sorter.rows(), in_order(ORDER, list(enumerate(rows))))

    def test_a_disk_that_runs_again_between_the_deeds_of_one_sorter(self):
        for size in SIZES:
            rows = rows_of(KINDS, 31, 4)
            for picks in PICKS:
                for every in (1, 3, 7, 10):
                    disk, sorter = made_sorter(size, rows)
                    steps = 0
                    while sorter.step():
                        steps += 1
                        # Runs that aren't over may never be if the disk lets go of them each time.
                        if steps % every == 0 and steps < 40:
                            disk.stop(picks)
                            disk.again()
                    self.assertEqual(sorter.rows(), in_order(ORDER, list(enumerate(rows))))


class CountsBehindAStop(Case):
    def test_a_merge_goes_on_from_its_last_page(self):
        for size in SIZES:
            rows = descending(31)
            told = stages(ORDER, *size, rows)
            disk, sorter = made_sorter(size, rows)
            for at, stage in enumerate(told[:-1]):
                if stage.merging:
                    for stopped in list(self.stops(disk, sorter, lambda that: that.step(), PICKS[1])):
                        anew = Sorter(stopped, KINDS, ORDER, *size)
                        has = at if self.is_at(anew, stage) else at + 1
                        if has == at:
                            anew.step()
                            self.assertEqual(anew.under_way(), told[at + 1].under_way())
                            self.assertEqual(anew.counts()[1], 1)
                            standing = [name for name in stage.merging if stage.at(name) < len(stage.live[name])]
                            self.assertGreaterEqual(anew.counts()[0], len(standing))
                sorter.step()


if __name__ == "__main__":
    unittest.main()
